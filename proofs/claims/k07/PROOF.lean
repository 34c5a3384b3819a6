import PyProof.Rows.All
import Wide.All
import OpenK.AllK
import Wide.FinOn
import KE.KStateDown
import HandS.ForMost
import HandS.Defaults
import HandS.Head0
import HandS.Head1
import HandS.Head2
import HandS.HeadEnd
import HandS.HeadHook1
import HandS.HeadHook2
import HandS.HeadHook3
import HandS.HeadHook4
import HandS.HeadWalk
import HandS.EndTab
import HandS.AnyAll
import HandS.Deep
import HandS.FStr
import HandS.StrMore
import HandS.IsInst
import HandS.Replace
import HandS.Text
import HandS.ForExc
import HandS.RaiseMore
import HandS.More
import KE.KxText
import HandS.ExcIs
import PyProof.AutoSeq1
import HandS.SetKeys
import HandS.TupAny
import HandS.Iter
import HandS.GenList
import HandS.Rev
import PyProof.WalkInts
import PyProof.CollectIter
import HandS.Style
import HandS.CallLocal
import HandS.TryOnly
import KE.KDictMeth
import HandS.TupMul
import KE.KDictZip
import KE.KItemsList
import PyProof.ListNew
import PyProof.EnumMake
import Lean
import PySem.Challenge.RW_showtree_k07_what_holds
set_option Elab.async false
set_option linter.all false
set_option maxRecDepth 100000
set_option maxHeartbeats 0
/-! DL: data over the hand layer: what an expression, a statement, a def is worth over plain data. -/
namespace DL
open PySem PySem.Spec PyProof.Rows L2

/-! ### heaps -/
def Sub (A B : Hp) : Prop := ∀ a o, A a = some o → B a = some o
theorem Sub.refl (A : Hp) : Sub A A := fun _ _ h => h
theorem Sub.trans {A B C : Hp} (h : Sub A B) (k : Sub B C) : Sub A C := fun a o e => k a o (h a o e)
/-- all but tables is kept; tables stay good; nothing goes away -/
structure Ext (H H' : Hp) : Prop where
  k : ∀ a o, H a = some o → (∀ ps, o ≠ .tbl ps) → H' a = some o
  t : ∀ a, GxR.TabG H a → GxR.TabG H' a
  n : ∀ a, H' a = none → H a = none
theorem Ext.refl (H : Hp) : Ext H H := ⟨fun _ _ e _ => e, fun _ e => e, fun _ e => e⟩
theorem Ext.trans {A B C : Hp} (h : Ext A B) (k : Ext B C) : Ext A C :=
  ⟨fun a o e n => k.k a o (h.k a o e n) n, fun a e => k.t a (h.t a e), fun a e => h.n a (k.n a e)⟩
theorem Ext.of_new {H : Hp} {p : Addr} {o : HO} (h : H p = none) : Ext H (upd H p o) :=
  ⟨fun a u e _ => by rw [upd_ne (ne_of_none e h)]; exact e,
   fun a ⟨ps, e, t⟩ => ⟨ps, by rw [upd_ne (ne_of_none e h)]; exact e, t⟩,
   fun a e => by
    by_cases q : a = p
    · rw [q]; exact h
    · rw [upd_ne q] at e; exact e⟩
theorem Ext.of_tab {P : Addr} {H H' : Hp} (h : GxR.Tabbed P H H') (g : GxR.TabG H P) : Ext H H' where
  k := fun a o e n => by
    have ne : a ≠ P := fun q => by
      obtain ⟨ps, e2, _⟩ := g
      rw [q, e2] at e
      exact n ps (Option.some.inj e).symm
    rw [h.2 a ne]; exact e
  t := fun a e => by
    by_cases q : a = P
    · rw [q]; exact h.1
    · obtain ⟨ps, e1, e2⟩ := e
      exact ⟨ps, by rw [h.2 a q]; exact e1, e2⟩
  n := fun a e => by
    by_cases q : a = P
    · obtain ⟨ps, e1, _⟩ := h.1
      rw [q, e1] at e
      cases e
    · rw [h.2 a q] at e; exact e
/-- the heap of what stands as data -/
structure DH (Hd H : Hp) : Prop where
  s : Sub Hd H
  nt : ∀ a ps, Hd a ≠ some (.tbl ps)
theorem DH.ext {Hd H H' : Hp} (h : DH Hd H) (e : Ext H H') : DH Hd H' :=
  ⟨fun a o q => e.k a o (h.s a o q) fun ps z => h.nt a ps (by rw [q, z]), h.nt⟩
structure Gr (Hd H Hd' H' : Hp) : Prop where
  d : Sub Hd Hd'
  h : DH Hd' H'
  e : Ext H H'
  f : ∀ a, Hd a = none → H a ≠ none → Hd' a = none
theorem Gr.refl {Hd H : Hp} (h : DH Hd H) : Gr Hd H Hd H := ⟨Sub.refl _, h, Ext.refl _, fun _ e _ => e⟩
theorem Gr.trans {A a B b C c : Hp} (h : Gr A a B b) (k : Gr B b C c) : Gr A a C c :=
  ⟨h.d.trans k.d, k.h, h.e.trans k.e, fun x e n => k.f x (h.f x e n) fun z => n (h.e.n x z)⟩
/-- a new object, as data -/
theorem Gr.new {Hd H : Hp} {p : Addr} {o : HO} (h : DH Hd H) (hp : H p = none) (ho : ∀ ps, o ≠ .tbl ps) : Gr Hd H (upd Hd p o) (upd H p o) := by
  have hd0 : Hd p = none := by
    cases q : Hd p with
    | none => rfl
    | some u =>
      have := h.s p u q
      rw [hp] at this
      cases this
  refine ⟨fun a u e => by rw [upd_ne (ne_of_none e hd0)]; exact e, ⟨fun a u e => ?_, fun a ps e => ?_⟩, Ext.of_new hp, fun a e n => ?_⟩
  · by_cases q : a = p
    · rw [q, upd_same] at e
      rw [q, upd_same, e]
    · rw [upd_ne q] at e
      rw [upd_ne q]
      exact h.s a u e
  · by_cases q : a = p
    · rw [q, upd_same] at e
      exact ho ps (Option.some.inj e)
    · rw [upd_ne q] at e
      exact h.nt a ps e
  · by_cases q : a = p
    · rw [q] at n
      exact absurd hp n
    · rw [upd_ne q]; exact e
theorem Gr.newOut {Hd H : Hp} {p : Addr} {o : HO} (h : DH Hd H) (hp : H p = none) : Gr Hd H Hd (upd H p o) :=
  ⟨Sub.refl _, h.ext (Ext.of_new hp), Ext.of_new hp, fun _ e _ => e⟩
theorem Gr.tab {Hd H H' : Hp} {P : Addr} (h : DH Hd H) (t : GxR.Tabbed P H H') (g : GxR.TabG H P) : Gr Hd H Hd H' :=
  ⟨Sub.refl _, h.ext (Ext.of_tab t g), Ext.of_tab t g, fun _ e _ => e⟩

/-! ### data -/
theorem rd_sub {A B : Hp} (s : Sub A B) {a : Addr} {u : HO} (h : Rd A a u) : Rd B a u := h.elim (fun e => .inl (s _ _ e)) fun ⟨o, e⟩ => .inr ⟨o, s _ _ e⟩
theorem sl_sub {K : PySem.W.Frag} {A B : Hp} (s : Sub A B) {a : Addr} {xs : List V} (h : SqL K A a xs) : SqL K B a xs := h.imp (rd_sub s) id
theorem st_sub {K : PySem.W.Frag} {A B : Hp} (s : Sub A B) {a : Addr} {xs : List V} (h : SqT K A a xs) : SqT K B a xs := h.imp (rd_sub s) id
mutual
theorem dp_sub {K : PySem.W.Frag} {A B : Hp} (s : Sub A B) : ∀ (d : PyData) (v : V), Dp K A v d → Dp K B v d
  | .none, _, h => by cases h; exact .non
  | .bool b, _, h => by cases h; exact .bl b
  | .int i, _, h => by cases h; exact .int i
  | .str x, _, h => by cases h; exact .str x
  | .list ds, _, h => by
    cases h with
    | lst h1 h2 => exact .lst (sl_sub s h1) (dpa_sub s ds _ h2)
  | .tuple ds, _, h => by
    cases h with
    | tup h1 h2 => exact .tup (st_sub s h1) (dpa_sub s ds _ h2)
  | .dict _, _, h => by cases h
theorem dpa_sub {K : PySem.W.Frag} {A B : Hp} (s : Sub A B) : ∀ (ds : List PyData) (vs : List V), DpAll K A vs ds → DpAll K B vs ds
  | [], _, h => by cases h; exact .nil
  | d :: ds, _, h => by
    cases h with
    | cons h1 h2 => exact .cons (dp_sub s d _ h1) (dpa_sub s ds _ h2)
end
theorem Dp.up {K : PySem.W.Frag} {A B : Hp} {v : V} {d : PyData} (h : Dp K A v d) (s : Sub A B) : Dp K B v d := dp_sub s d v h
theorem DpAll.up {K : PySem.W.Frag} {A B : Hp} {vs : List V} {ds : List PyData} (h : DpAll K A vs ds) (s : Sub A B) : DpAll K B vs ds := dpa_sub s ds vs h
section
variable {K : PySem.W.Frag} {H : Hp}
theorem dpa_len : ∀ {vs : List V} {ds : List PyData}, DpAll K H vs ds → vs.length = ds.length
  | _, _, .nil => rfl
  | _, _, .cons _ t => congrArg (· + 1) (dpa_len t)
theorem dpa_get : ∀ {vs : List V} {ds : List PyData} {i : Nat} {d : PyData}, DpAll K H vs ds → ds[i]? = some d → ∃ v, vs[i]? = some v ∧ Dp K H v d
  | _, _, _, _, .nil, e => by simp at e
  | _, _, 0, _, .cons h _, e => by
    simp at e
    subst e
    exact ⟨_, rfl, h⟩
  | _, _, i + 1, d, .cons _ t, e => by
    obtain ⟨v, h1, h2⟩ := dpa_get (i := i) (d := d) t (by simpa using e)
    exact ⟨v, by simpa using h1, h2⟩
theorem dpa_get' : ∀ {vs : List V} {ds : List PyData} {i : Nat} {v : V}, DpAll K H vs ds → vs[i]? = some v → ∃ d, ds[i]? = some d ∧ Dp K H v d
  | _, _, _, _, .nil, e => by simp at e
  | _, _, 0, _, .cons h _, e => by
    simp at e
    subst e
    exact ⟨_, rfl, h⟩
  | _, _, i + 1, d, .cons _ t, e => by
    obtain ⟨v, h1, h2⟩ := dpa_get' (i := i) t (by simpa using e)
    exact ⟨v, by simpa using h1, h2⟩
theorem dpa_app : ∀ {vs ws : List V} {ds es : List PyData}, DpAll K H vs ds → DpAll K H ws es → DpAll K H (vs ++ ws) (ds ++ es)
  | _, _, _, _, .nil, k => k
  | _, _, _, _, .cons h t, k => .cons h (dpa_app t k)
theorem dpa_take : ∀ {vs : List V} {ds : List PyData} (n : Nat), DpAll K H vs ds → DpAll K H (vs.take n) (ds.take n)
  | _, _, 0, _ => .nil
  | _, _, _ + 1, .nil => .nil
  | _, _, n + 1, .cons h t => .cons h (dpa_take n t)
theorem dpa_drop : ∀ {vs : List V} {ds : List PyData} (n : Nat), DpAll K H vs ds → DpAll K H (vs.drop n) (ds.drop n)
  | _, _, 0, r => r
  | _, _, _ + 1, .nil => .nil
  | _, _, n + 1, .cons _ t => dpa_drop n t
theorem dpa_rev {vs : List V} {ds : List PyData} (h : DpAll K H vs ds) : DpAll K H vs.reverse ds.reverse := by
  induction ds generalizing vs with
  | nil => cases h; exact .nil
  | cons d ds ih =>
    cases h with
    | cons h1 h2 =>
      rw [List.reverse_cons, List.reverse_cons]
      exact dpa_app (ih h2) (.cons h1 .nil)
theorem dpa_ints : ∀ ns : List Int, DpAll K H (ns.map V.int) (ns.map PyData.int)
  | [] => .nil
  | n :: r => .cons (.int n) (dpa_ints r)
end
/-- the same cut of data -/
def cutD {α : Type} (xs : List α) (lo hi : Option Int) : List α := (xs.drop (HT.sIx xs.length 0 lo)).take (HT.sIx xs.length xs.length hi - HT.sIx xs.length 0 lo)
theorem dpa_cut {K : PySem.W.Frag} {H : Hp} {vs : List V} {ds : List PyData} (lo hi : Option Int) (h : DpAll K H vs ds) : DpAll K H (cutV vs lo hi) (cutD ds lo hi) := by
  unfold cutV cutD
  rw [dpa_len h]
  exact dpa_take _ (dpa_drop _ h)

/-! ### slots -/
inductive Sl where
  | no
  | dat (d : PyData)
  | val (v : V)
  | own (xs : List PyData)
  /-- a thing told by what stands as data -/
  | hp (φ : V → Hp → Prop) (st : ∀ v A B, Sub A B → φ v A → φ v B)
def SlOk (K : PySem.W.Frag) (Hd H : Hp) : Option V → Sl → Prop
  | _, .no => True
  | some v, .dat d => Dp K Hd v d
  | some v, .val w => v = w
  | some v, .own xs => ∃ a vs, v = .ref a ∧ H a = some (.lst vs) ∧ Hd a = none ∧ DpAll K Hd vs xs
  | some v, .hp φ _ => φ v Hd
  | none, _ => False
structure Env (K : PySem.W.Frag) (tb : List Addr) (Hd H : Hp) (σ : L2.St) (ds : List Sl) : Prop where
  len : σ.length = ds.length
  dh : DH Hd H
  tb : ∀ P ∈ tb, GxR.TabG H P
  sl : ∀ (i : Nat) (s : Sl), ds[i]? = some s → ∃ o, σ[i]? = some o ∧ SlOk K Hd H o s
  ap : ∀ (i j : Nat) (xs ys : List PyData) (a : Addr), i ≠ j → ds[i]? = some (.own xs) → ds[j]? = some (.own ys) → σ[i]? = some (some (.ref a)) → σ[j]? = some (some (.ref a)) → False
section
variable {K : PySem.W.Frag} {tb : List Addr} {Hd H Hd' H' : Hp} {σ : L2.St} {ds : List Sl}
theorem SlOk.up {o : Option V} {s : Sl} (h : SlOk K Hd H o s) (g : Gr Hd H Hd' H') : SlOk K Hd' H' o s := by
  cases s with
  | no => cases o <;> trivial
  | dat d =>
    cases o with
    | none => exact h.elim
    | some v => exact Dp.up h g.d
  | val w =>
    cases o with
    | none => exact h.elim
    | some v => exact h
  | hp φ st =>
    cases o with
    | none => exact h.elim
    | some v => exact st v _ _ g.d h
  | own xs =>
    cases o with
    | none => exact h.elim
    | some v =>
      obtain ⟨a, vs, e1, e2, e3, e4⟩ := h
      exact ⟨a, vs, e1, g.e.k a _ e2 (fun ps z => by cases z), g.f a e3 (by rw [e2]; exact fun z => nomatch z), DpAll.up e4 g.d⟩
theorem Env.up (h : Env K tb Hd H σ ds) (g : Gr Hd H Hd' H') : Env K tb Hd' H' σ ds :=
  ⟨h.len, g.h, fun P hp => g.e.t P (h.tb P hp), fun i s e => let ⟨o, h1, h2⟩ := h.sl i s e; ⟨o, h1, h2.up g⟩, h.ap⟩
theorem Env.dat (h : Env K tb Hd H σ ds) {i : Nat} {d : PyData} (e : ds[i]? = some (.dat d)) : ∃ v, σ[i]? = some (some v) ∧ Dp K Hd v d := by
  obtain ⟨o, h1, h2⟩ := h.sl i _ e
  cases o with
  | none => exact h2.elim
  | some v => exact ⟨v, h1, h2⟩
theorem Env.val (h : Env K tb Hd H σ ds) {i : Nat} {w : V} (e : ds[i]? = some (.val w)) : σ[i]? = some (some w) := by
  obtain ⟨o, h1, h2⟩ := h.sl i _ e
  cases o with
  | none => exact h2.elim
  | some v =>
    have e : v = w := h2
    rw [h1, e]
theorem Env.own (h : Env K tb Hd H σ ds) {i : Nat} {xs : List PyData} (e : ds[i]? = some (.own xs)) : ∃ a vs, σ[i]? = some (some (.ref a)) ∧ H a = some (.lst vs) ∧ Hd a = none ∧ DpAll K Hd vs xs := by
  obtain ⟨o, h1, h2⟩ := h.sl i _ e
  cases o with
  | none => exact h2.elim
  | some v =>
    obtain ⟨a, vs, e1, e2, e3, e4⟩ := h2
    exact ⟨a, vs, by rw [h1, e1], e2, e3, e4⟩
/-- a slot is stored: what is no own list -/
theorem Env.set (h : Env K tb Hd H σ ds) {i : Nat} {v : V} {s : Sl} (hs : SlOk K Hd H (some v) s) (no : ∀ xs, s ≠ .own xs) : Env K tb Hd H (σ.set i (some v)) (ds.set i s) := by
  refine ⟨by rw [List.length_set, List.length_set]; exact h.len, h.dh, h.tb, fun j t e => ?_, fun j k xs ys a n e1 e2 e3 e4 => ?_⟩
  · by_cases q : i = j
    · subst q
      have hi : i < ds.length := by
        have := (List.getElem?_eq_some_iff.mp e).1
        rw [List.length_set] at this
        exact this
      rw [List.getElem?_set_self hi] at e
      cases e
      exact ⟨some v, List.getElem?_set_self (by rw [h.len]; exact hi), hs⟩
    · rw [List.getElem?_set_ne q] at e
      obtain ⟨o, h1, h2⟩ := h.sl j t e
      exact ⟨o, by rw [List.getElem?_set_ne q]; exact h1, h2⟩
  · have nj : ∀ (m : Nat) (zs : List PyData), (ds.set i s)[m]? = some (.own zs) → i ≠ m := fun m zs e q => by
      subst q
      have hi : i < ds.length := by
        have := (List.getElem?_eq_some_iff.mp e).1
        rw [List.length_set] at this
        exact this
      rw [List.getElem?_set_self hi] at e
      exact no zs (Option.some.inj e)
    have n1 := nj j xs e1
    have n2 := nj k ys e2
    rw [List.getElem?_set_ne n1] at e1 e3
    rw [List.getElem?_set_ne n2] at e2 e4
    exact h.ap j k xs ys a n e1 e2 e3 e4
end
end DL
namespace DL
open PySem PySem.Spec PyProof.Rows L2

/-! ### expressions over data -/
section
variable (K : PySem.W.Frag) (tb : List Addr)
def EvE (te : TE) (ds : List Sl) (d : PyData) : Prop := ∀ (Hd H : Hp) (σ : L2.St), Env K tb Hd H σ ds → ∀ Q : VK, (∀ v Hd' H', Gr Hd H Hd' H' → Dp K Hd' v d → Q v H') → te σ H Q
def EvA (ta : TA) (ds : List Sl) (es : List PyData) : Prop := ∀ (Hd H : Hp) (σ : L2.St), Env K tb Hd H σ ds → ∀ Q : List V → Hp → Prop, (∀ vs Hd' H', Gr Hd H Hd' H' → DpAll K Hd' vs es → Q vs H') → ta σ H Q
def EvT (tt : TT) (ds : List Sl) (b : Bool) : Prop := ∀ (Hd H : Hp) (σ : L2.St), Env K tb Hd H σ ds → ∀ Q : Bool → Hp → Prop, (∀ Hd' H', Gr Hd H Hd' H' → Q b H') → tt σ H Q
def EvO (to : TO) (ds : List Sl) (o : Option Int) : Prop := ∀ (Hd H : Hp) (σ : L2.St), Env K tb Hd H σ ds → ∀ Q : Option Int → Hp → Prop, (∀ Hd' H', Gr Hd H Hd' H' → Q o H') → to σ H Q
/-- an operator, a call, a method, a slice on values -/
def RvD (r : R2) (d e f : PyData) : Prop := ∀ (Hd H : Hp) (x y : V), DH Hd H → (∀ P ∈ tb, GxR.TabG H P) → Dp K Hd x d → Dp K Hd y e → ∀ Q : VK, (∀ v Hd' H', Gr Hd H Hd' H' → Dp K Hd' v f → Q v H') → r x y H Q
def RuD (r : V → Hp → VK → Prop) (d f : PyData) : Prop := ∀ (Hd H : Hp) (x : V), DH Hd H → Dp K Hd x d → ∀ Q : VK, (∀ v Hd' H', Gr Hd H Hd' H' → Dp K Hd' v f → Q v H') → r x H Q
def RcD (r : List V → Hp → VK → Prop) (es : List PyData) (f : PyData) : Prop := ∀ (Hd H : Hp) (xs : List V), DH Hd H → DpAll K Hd xs es → ∀ Q : VK, (∀ v Hd' H', Gr Hd H Hd' H' → Dp K Hd' v f → Q v H') → r xs H Q
def RsD (r : V → Option Int → Option Int → Hp → VK → Prop) (d : PyData) (lo hi : Option Int) (f : PyData) : Prop := ∀ (Hd H : Hp) (x : V), DH Hd H → Dp K Hd x d → ∀ Q : VK, (∀ v Hd' H', Gr Hd H Hd' H' → Dp K Hd' v f → Q v H') → r x lo hi H Q
end
section
variable (X : Cx) (tb : List Addr)
def PEd (e : Expr) (ds : List Sl) (d : PyData) : Prop := ∃ t, PE X e t ∧ EvE X.K tb t ds d
def PAd (es : List Expr) (ds : List Sl) (fs : List PyData) : Prop := ∃ t, PA X es t ∧ EvA X.K tb t ds fs
def PTd (e : Expr) (ds : List Sl) (b : Bool) : Prop := ∃ t, PT X e t ∧ EvT X.K tb t ds b
def PWd (e : Expr) (ds : List Sl) (b : Bool) : Prop := ∃ t, PW X e t ∧ EvT X.K tb t ds b
def POd (e : Option Expr) (ds : List Sl) (o : Option Int) : Prop := ∃ t, PO X e t ∧ EvO X.K tb t ds o
end
section
variable {X : Cx} {tb : List Addr} {ds : List Sl} {d e f : PyData} {a b c : Expr} {pos : Pos}
def visB (sc : Scope) (x : Str) : Bool := match sc.names.lookup x with
  | some .local => true
  | some .cell => true
  | some .free => true
  | _ => false
theorem visB_ok {sc : Scope} {x : Str} (h : visB sc x = true) : L2.Vis sc x := by
  unfold visB at h
  unfold L2.Vis
  split at h
  · exact .inl (by assumption)
  · exact .inr (.inl (by assumption))
  · exact .inr (.inr (by assumption))
  · cases h
def locB (sc : Scope) (x : Str) : Bool := match sc.names.lookup x with
  | some .local => true
  | some .cell => true
  | _ => false
theorem locB_ok {sc : Scope} {x : Str} (h : locB sc x = true) : L2.Loc sc x := by
  unfold locB at h
  unfold L2.Loc
  split at h
  · exact .inl (by assumption)
  · exact .inr (by assumption)
  · cases h
theorem PEd.is {g : PyData} (h : PEd X tb a ds d) (q : d = g) : PEd X tb a ds g := q ▸ h
theorem PTd.is {x y : Bool} (h : PTd X tb a ds x) (q : x = y) : PTd X tb a ds y := q ▸ h
theorem ed_var (i : Nat) {x : Str} {pos : Pos} (hd : ds[i]? = some (.dat d) := by rfl) (hN : X.N[i]? = some x := by rfl) (hv : visB X.env.scope x = true := by rfl) (h1 : (x == ("__debug__" : Str)) = false := by decide)
    (h2 : (x == ("__classdict__" : Str)) = false := by decide) : PEd X tb (.Name x pos) ds d :=
  ⟨_, pe_var hN (visB_ok hv) h1 h2, fun Hd H σ E Q q => let ⟨v, e1, e2⟩ := E.dat hd; ⟨v, e1, q v Hd H (Gr.refl E.dh) e2⟩⟩
theorem ev_c {K : PySem.W.Frag} {v : V} (h : ∀ Hd, Dp K Hd v d) : EvE K tb (tC v) ds d := fun Hd H _ E _ q => q v Hd H (Gr.refl E.dh) (h Hd)
theorem ed_int {i : Int} {j : Nat} : PEd X tb (.Constant (.int i) j pos) ds (.int i) := ⟨_, pe_int, ev_c fun _ => .int i⟩
theorem ed_bl {k : Bool} {j : Nat} : PEd X tb (.Constant (.bool k) j pos) ds (.bool k) := ⟨_, pe_bl, ev_c fun _ => .bl k⟩
theorem ed_non {j : Nat} : PEd X tb (.Constant .none j pos) ds .none := ⟨_, pe_non, ev_c fun _ => .non⟩
theorem ed_str {x : Str} {j : Nat} : PEd X tb (.Constant (.str x) j pos) ds (.str x) := ⟨_, pe_str, ev_c fun _ => .str x⟩
theorem ed_glob {x : Str} {v : V} {u : Value} (hg : Gl X x) (hm : X.mg x = some u) (r : RelV v u) (h : ∀ Hd, Dp X.K Hd v d) (hd : (x == ("__debug__" : Str)) = false := by decide) : PEd X tb (.Name x pos) ds d := ⟨_, pe_glob hg hm r hd, ev_c h⟩

/-! ### operators -/
theorem ev_op {K : PySem.W.Frag} {ta tb' : TE} {r : R2} (ha : EvE K tb ta ds d) (hb : EvE K tb tb' ds e) (hr : RvD K tb r d e f) : EvE K tb (tOp r ta tb') ds f := fun Hd H σ E Q q =>
  ha Hd H σ E _ fun x Hd1 H1 g1 dx => hb Hd1 H1 σ (E.up g1) _ fun y Hd2 H2 g2 dy => hr Hd2 H2 x y g2.h ((E.up g1).up g2).tb (Dp.up dx g2.d) dy Q fun v Hd3 H3 g3 dv => q v Hd3 H3 ((g1.trans g2).trans g3) dv
theorem ed_op {op : Operator} {r : R2} (ho : OpR X (binaryOp op) r) (hr : RvD X.K tb r d e f) (ha : PEd X tb a ds d) (hb : PEd X tb b ds e) : PEd X tb (.BinOp a op b pos) ds f :=
  let ⟨_, p1, q1⟩ := ha; let ⟨_, p2, q2⟩ := hb; ⟨_, pe_op ho p1 p2, ev_op q1 q2 hr⟩
theorem ed_un {op : UnaryOp} {r : V → Hp → VK → Prop} (ho : UnR X (unaryOp op) r) (hr : RuD X.K r d f) (ha : PEd X tb a ds d) : PEd X tb (.UnaryOp op a pos) ds f :=
  let ⟨_, p1, q1⟩ := ha; ⟨_, pe_un ho p1, fun Hd H σ E Q q => q1 Hd H σ E _ fun x Hd1 H1 g1 dx => hr Hd1 H1 x g1.h dx Q fun v Hd2 H2 g2 dv => q v Hd2 H2 (g1.trans g2) dv⟩
theorem ed_cmp {op : CmpOp} {r : R2} (ho : OpR X (compareOp op) r) (hr : RvD X.K tb r d e f) (ha : PEd X tb a ds d) (hb : PEd X tb b ds e) (hm : behindInMarks op b = false := by first | exact nomark _ | rfl) : PEd X tb (.Compare a [op] [b] pos) ds f :=
  let ⟨_, p1, q1⟩ := ha; let ⟨_, p2, q2⟩ := hb; ⟨_, pe_cmpR ho p1 p2 hm, ev_op q1 q2 hr⟩
theorem td_cmp {op : CmpOp} {r : R2} {k : Bool} (ho : OpR X (compareOp op) r) (hr : RvD X.K tb r d e (.bool k)) (ha : PEd X tb a ds d) (hb : PEd X tb b ds e) (hm : behindInMarks op b = false := by first | exact nomark _ | rfl) : PTd X tb (.Compare a [op] [b] pos) ds k :=
  let ⟨_, p1, q1⟩ := ha; let ⟨_, p2, q2⟩ := hb; ⟨_, pt_cmpR ho p1 p2 hm, fun Hd H σ E Q q => ev_op q1 q2 hr Hd H σ E _ fun v Hd1 H1 g dv => by
    cases dv
    exact ⟨k, rfl, q Hd1 H1 g⟩⟩
theorem td_val {k : Bool} (ha : PEd X tb a ds (.bool k)) (he : ∀ whole, isTrue a X.env whole = (do let v ← whole; standAt a.pos; holding [v] (truthy v)) := by intro _; rfl) : PTd X tb a ds k :=
  let ⟨_, p1, q1⟩ := ha; ⟨_, pt_val p1 he, fun Hd H σ E Q q => q1 Hd H σ E _ fun v Hd1 H1 g dv => by
    cases dv
    exact ⟨k, rfl, q Hd1 H1 g⟩⟩
theorem td_not {k : Bool} (h : PTd X tb a ds k) : PTd X tb (.UnaryOp .Not a pos) ds (!k) := let ⟨_, p, q⟩ := h; ⟨_, pt_not p, fun Hd H σ E Q z => q Hd H σ E _ fun Hd1 H1 g => z Hd1 H1 g⟩
theorem PWd.pt {k : Bool} (h : PWd X tb a ds k) : PTd X tb a ds k := let ⟨_, p, q⟩ := h; ⟨_, p.pt, q⟩
variable {rest : List Expr}
theorem wd_and1 {k : Bool} (h : PTd X tb a ds k) : PWd X tb (.BoolOp .And [a] pos) ds k := let ⟨_, p, q⟩ := h; ⟨_, pw_and1 p, q⟩
theorem wd_or1 {k : Bool} (h : PTd X tb a ds k) : PWd X tb (.BoolOp .Or [a] pos) ds k := let ⟨_, p, q⟩ := h; ⟨_, pw_or1 p, q⟩
/-- what is never asked -/
theorem wd_and {k l : Bool} (h : PTd X tb a ds k) {u : TT} (hp : PW X (.BoolOp .And (b :: rest) pos) u) (hq : k = true → EvT X.K tb u ds l) : PWd X tb (.BoolOp .And (a :: b :: rest) pos) ds (k && l) := let ⟨_, p, q⟩ := h; ⟨_, pw_and p hp, fun Hd H σ E Q z => q Hd H σ E _ fun Hd1 H1 g => by
  cases k with
  | true =>
    show u σ H1 Q
    exact hq rfl Hd1 H1 σ (E.up g) Q fun Hd2 H2 g2 => z Hd2 H2 (g.trans g2)
  | false =>
    show Q false H1
    exact z Hd1 H1 g⟩
theorem wd_or {k l : Bool} (h : PTd X tb a ds k) {u : TT} (hp : PW X (.BoolOp .Or (b :: rest) pos) u) (hq : k = false → EvT X.K tb u ds l) : PWd X tb (.BoolOp .Or (a :: b :: rest) pos) ds (k || l) := let ⟨_, p, q⟩ := h; ⟨_, pw_or p hp, fun Hd H σ E Q z => q Hd H σ E _ fun Hd1 H1 g => by
  cases k with
  | true =>
    show Q true H1
    exact z Hd1 H1 g
  | false =>
    show u σ H1 Q
    exact hq rfl Hd1 H1 σ (E.up g) Q fun Hd2 H2 g2 => z Hd2 H2 (g.trans g2)⟩
end
end DL
namespace DL
open PySem PySem.Spec PyProof.Rows L2

/-! ### what is never asked -/
section
variable {X : Cx} {tb : List Addr} {ds : List Sl} {d e f : PyData} {a b c : Expr} {pos : Pos} {rest : List Expr}
theorem pe_nev {e : Expr} : PE X e (fun _ _ _ => False) := ⟨fun _ _ _ _ _ _ h => h.elim⟩
theorem pt_nev {e : Expr} : PT X e (fun _ _ _ => False) := ⟨fun _ _ _ _ _ _ h => h.elim⟩
theorem pw_nev {e : Expr} : PW X e (fun _ _ _ => False) := ⟨fun _ _ _ _ _ _ _ h => h.elim⟩
theorem wd_andt {l : Bool} (h : PTd X tb a ds true) (hb : PWd X tb (.BoolOp .And (b :: rest) pos) ds l) : PWd X tb (.BoolOp .And (a :: b :: rest) pos) ds l := let ⟨_, p, q⟩ := hb; by
  have z := wd_and (l := l) h p fun _ => q
  rwa [Bool.true_and] at z
theorem wd_andf (h : PTd X tb a ds false) : PWd X tb (.BoolOp .And (a :: b :: rest) pos) ds false := wd_and (l := false) h pw_nev fun z => nomatch z
theorem wd_ort (h : PTd X tb a ds true) : PWd X tb (.BoolOp .Or (a :: b :: rest) pos) ds true := wd_or (l := false) h pw_nev fun z => nomatch z
theorem wd_orf {l : Bool} (h : PTd X tb a ds false) (hb : PWd X tb (.BoolOp .Or (b :: rest) pos) ds l) : PWd X tb (.BoolOp .Or (a :: b :: rest) pos) ds l := let ⟨_, p, q⟩ := hb; by
  have z := wd_or (l := l) h p fun _ => q
  rwa [Bool.false_or] at z
theorem wd_and2 {k l : Bool} (h : PTd X tb a ds k) (hb : k = true → PWd X tb (.BoolOp .And (b :: rest) pos) ds l) : PWd X tb (.BoolOp .And (a :: b :: rest) pos) ds (k && l) := by
  cases k with
  | true => exact wd_andt h (hb rfl)
  | false => exact wd_andf h
theorem wd_or2 {k l : Bool} (h : PTd X tb a ds k) (hb : k = false → PWd X tb (.BoolOp .Or (b :: rest) pos) ds l) : PWd X tb (.BoolOp .Or (a :: b :: rest) pos) ds (k || l) := by
  cases k with
  | true => exact wd_ort h
  | false => exact wd_orf h (hb rfl)
/-- as values -/
theorem ed_one {op : PySem.BoolOp} (h : PEd X tb a ds d) : PEd X tb (.BoolOp op [a] pos) ds d := let ⟨_, p, q⟩ := h; ⟨_, pe_one p, q⟩
theorem ed_and {k : Bool} (h : PEd X tb a ds (.bool k)) (hb : k = true → PEd X tb (.BoolOp .And (b :: rest) pos) ds d) (h0 : k = false → d = .bool false) : PEd X tb (.BoolOp .And (a :: b :: rest) pos) ds d := by
  obtain ⟨t, p, q⟩ := h
  cases k with
  | true =>
    obtain ⟨u, p2, q2⟩ := hb rfl
    exact ⟨_, pe_and p p2, fun Hd H σ E Q z => q Hd H σ E _ fun x Hd1 H1 g dx => by
      cases dx
      exact ⟨true, rfl, q2 Hd1 H1 σ (E.up g) Q fun v Hd2 H2 g2 dv => z v Hd2 H2 (g.trans g2) dv⟩⟩
  | false =>
    rw [h0 rfl]
    exact ⟨_, pe_and p pe_nev, fun Hd H σ E Q z => q Hd H σ E _ fun x Hd1 H1 g dx => by
      cases dx
      exact ⟨false, rfl, z _ Hd1 H1 g (.bl false)⟩⟩
theorem ed_or {k : Bool} (h : PEd X tb a ds (.bool k)) (hb : k = false → PEd X tb (.BoolOp .Or (b :: rest) pos) ds d) (h0 : k = true → d = .bool true) : PEd X tb (.BoolOp .Or (a :: b :: rest) pos) ds d := by
  obtain ⟨t, p, q⟩ := h
  cases k with
  | false =>
    obtain ⟨u, p2, q2⟩ := hb rfl
    exact ⟨_, pe_or p p2, fun Hd H σ E Q z => q Hd H σ E _ fun x Hd1 H1 g dx => by
      cases dx
      exact ⟨false, rfl, q2 Hd1 H1 σ (E.up g) Q fun v Hd2 H2 g2 dv => z v Hd2 H2 (g.trans g2) dv⟩⟩
  | true =>
    rw [h0 rfl]
    exact ⟨_, pe_or p pe_nev, fun Hd H σ E Q z => q Hd H σ E _ fun x Hd1 H1 g dx => by
      cases dx
      exact ⟨true, rfl, z _ Hd1 H1 g (.bl true)⟩⟩
theorem ed_not {k : Bool} (h : PEd X tb a ds (.bool k)) : PEd X tb (.UnaryOp .Not a pos) ds (.bool (!k)) := let ⟨_, p, q⟩ := h; ⟨_, pe_not p, fun Hd H σ E Q z => q Hd H σ E _ fun x Hd1 H1 g dx => by
  cases dx
  exact ⟨k, rfl, z _ Hd1 H1 g (.bl _)⟩⟩
theorem ed_if {k : Bool} (hc : PTd X tb c ds k) (ha : k = true → PEd X tb a ds d) (hb : k = false → PEd X tb b ds d) : PEd X tb (.IfExp c a b pos) ds d := by
  obtain ⟨t, p, q⟩ := hc
  cases k with
  | true =>
    obtain ⟨u, p2, q2⟩ := ha rfl
    exact ⟨_, pe_ifExp p p2 pe_nev, fun Hd H σ E Q z => q Hd H σ E _ fun Hd1 H1 g => q2 Hd1 H1 σ (E.up g) Q fun v Hd2 H2 g2 dv => z v Hd2 H2 (g.trans g2) dv⟩
  | false =>
    obtain ⟨u, p2, q2⟩ := hb rfl
    exact ⟨_, pe_ifExp p pe_nev p2, fun Hd H σ E Q z => q Hd H σ E _ fun Hd1 H1 g => q2 Hd1 H1 σ (E.up g) Q fun v Hd2 H2 g2 dv => z v Hd2 H2 (g.trans g2) dv⟩
/-! ### arguments, displays -/
variable {es : List Expr} {fs : List PyData}
theorem ad_nil : PAd X tb [] ds [] := ⟨_, pa_nil, fun Hd H _ E _ q => q [] Hd H (Gr.refl E.dh) .nil⟩
theorem ad_cons (ha : PEd X tb a ds d) (hr : PAd X tb es ds fs) (hs : starEach (a :: es) X.env = (false, eval a X.env) :: starEach es X.env := by rfl) : PAd X tb (a :: es) ds (d :: fs) :=
  let ⟨_, p1, q1⟩ := ha; let ⟨_, p2, q2⟩ := hr; ⟨_, pa_cons p1 p2 hs, fun Hd H σ E Q z => q1 Hd H σ E _ fun x Hd1 H1 g dx => q2 Hd1 H1 σ (E.up g) _ fun xs Hd2 H2 g2 dxs => z (x :: xs) Hd2 H2 (g.trans g2) (.cons (Dp.up dx g2.d) dxs)⟩
theorem ed_tup {k : Nat} (h : PAd X tb es ds fs) (hl : fs.length ≤ 1000000) : PEd X tb (.Tuple es k pos) ds (.tuple fs) :=
  let ⟨_, p, q⟩ := h; ⟨_, pe_tup p, fun Hd H σ E Q z => q Hd H σ E _ fun xs Hd1 H1 g dxs => ⟨by rw [dpa_len dxs]; exact Nat.le_trans hl (by decide), fun p hp => z _ _ _ (g.trans (Gr.new g.h hp fun _ z => HO.noConfusion z)) (.tup (.inl (.inl upd_same)) (DpAll.up dxs (Gr.new g.h hp fun _ z => HO.noConfusion z).d))⟩⟩
theorem ed_lst (h : PAd X tb es ds fs) (hl : fs.length ≤ 1000000) : PEd X tb (.List es pos) ds (.list fs) :=
  let ⟨_, p, q⟩ := h; ⟨_, pe_lst p, fun Hd H σ E Q z => q Hd H σ E _ fun xs Hd1 H1 g dxs => ⟨by rw [dpa_len dxs]; exact Nat.le_trans hl (by decide), fun p hp => z _ _ _ (g.trans (Gr.new g.h hp fun _ z => HO.noConfusion z)) (.lst (.inl (.inl upd_same)) (DpAll.up dxs (Gr.new g.h hp fun _ z => HO.noConfusion z).d))⟩⟩
/-! ### calls of built-ins by values, methods, slices, items -/
variable {x : Str} {p : Pos} {id T name : String} {nm : Str} {r : List V → Hp → VK → Prop}
theorem ed_callB (hc : CallR X (.builtin id) r) (hr : RcD X.K r fs f) (hm : X.mg x = none) (hv : bootBuiltins x = some (.builtin id)) (ha : PAd X tb (a :: es) ds fs) (hg : Gl X x := by rfl) (hn : x ≠ "__name__" := by decide) (hdb : (x == ("__debug__" : Str)) = false := by decide)
    (he : starEach (a :: es) X.env = (false, eval a X.env) :: starEach es X.env := by rfl) (hpl : (backTo pos (starEach es X.env)).any (·.1) = false := by rfl) : PEd X tb (.Call (.Name x p) (a :: es) [] pos) ds f :=
  let ⟨_, p1, q1⟩ := ha; ⟨_, pe_callB hc hg hm hv p1 hn hdb he hpl, fun Hd H σ E Q z => q1 Hd H σ E _ fun xs Hd1 H1 g dxs => hr Hd1 H1 xs g.h dxs Q fun v Hd2 H2 g2 dv => z v Hd2 H2 (g.trans g2) dv⟩
theorem ed_callTy (hc : CallR X (.type T) r) (hr : RcD X.K r fs f) (hm : X.mg x = none) (hv : bootBuiltins x = some (.type T)) (ha : PAd X tb (a :: es) ds fs) (hg : Gl X x := by rfl) (hn : x ≠ "__name__" := by decide) (hdb : (x == ("__debug__" : Str)) = false := by decide)
    (he : starEach (a :: es) X.env = (false, eval a X.env) :: starEach es X.env := by rfl) (hpl : (backTo pos (starEach es X.env)).any (·.1) = false := by rfl) : PEd X tb (.Call (.Name x p) (a :: es) [] pos) ds f :=
  let ⟨_, p1, q1⟩ := ha; ⟨_, pe_callTy hc hg hm hv p1 hn hdb he hpl, fun Hd H σ E Q z => q1 Hd H σ E _ fun xs Hd1 H1 g dxs => hr Hd1 H1 xs g.h dxs Q fun v Hd2 H2 g2 dv => z v Hd2 H2 (g.trans g2) dv⟩
def TyD (T : String) : PyData → Prop
  | .str _ => T = "str"
  | .list _ => T = "list"
  | .int _ => T = "int"
  | _ => False
/-- a method on values -/
def RmD (K : PySem.W.Frag) (r : V → List V → Hp → VK → Prop) (d : PyData) (fs : List PyData) (f : PyData) : Prop := ∀ (Hd H : Hp) (x : V) (xs : List V), DH Hd H → Dp K Hd x d → DpAll K Hd xs fs → ∀ Q : VK, (∀ v Hd' H', Gr Hd H Hd' H' → Dp K Hd' v f → Q v H') → r x xs H Q
theorem ty_of {K : PySem.W.Frag} {Hd H : Hp} {v : V} (h : DH Hd H) (e : Dp K Hd v d) (t : TyD T d) : tyV K T v H := by
  cases d with
  | str x => cases e; exact t
  | list xs => cases e with | lst h1 h2 => exact .inl ⟨t, _, sl_sub h.s h1⟩
  | int x => cases e; exact t
  | _ => exact t.elim
variable {rm : V → List V → Hp → VK → Prop} {apos : Pos}
theorem ed_bm (pa : PlainAttrs T) (slot : Slot T nm id) (hty : typeOf (.builtin id) = pure (.type "method_descriptor")) (hm : MtR X id rm) (hr : RmD X.K rm d fs f) (ht : TyD T d) (ho : PEd X tb b ds d) (ha : PAd X tb (a :: es) ds fs)
    (hbase : attributeBase b nm X.env (eval b X.env) = eval b X.env := by rfl)
    (hfew : ((backTo pos (starEach (a :: es) X.env)).all (fun x => !x.1) && (backToKw pos (keywordEach [] X.env)).all (fun x => x.1.isSome)
      && decide ((a :: es).length + ([] : List Keyword).length + (if ([] : List Keyword).isEmpty then 0 else 1) < 30)) = true := by rfl)
    (hline : (apos.endLine == pos.line) = true := by rfl) (hs : starEach (a :: es) X.env = (false, eval a X.env) :: starEach es X.env := by rfl) (hplain : (backTo pos (starEach es X.env)).any (·.1) = false := by rfl) :
    PEd X tb (.Call (.Attribute b nm apos) (a :: es) [] pos) ds f :=
  let ⟨_, p1, q1⟩ := ho; let ⟨_, p2, q2⟩ := ha; ⟨_, pe_bm pa slot hty hm p1 p2 hbase hfew hline hs hplain, fun Hd H σ E Q z => q1 Hd H σ E _ fun x Hd1 H1 g dx => ⟨ty_of g.h dx ht, q2 Hd1 H1 σ (E.up g) _ fun xs Hd2 H2 g2 dxs => hr Hd2 H2 x xs g2.h (Dp.up dx g2.d) dxs Q fun v Hd3 H3 g3 dv => z v Hd3 H3 ((g.trans g2).trans g3) dv⟩⟩
theorem ed_bm0 (pa : PlainAttrs T) (slot : Slot T nm id) (hty : typeOf (.builtin id) = pure (.type "method_descriptor")) (hm : MtR X id rm) (hr : RmD X.K rm d [] f) (ht : TyD T d) (ho : PEd X tb b ds d)
    (hbase : attributeBase b nm X.env (eval b X.env) = eval b X.env := by rfl) (hline : (apos.endLine == pos.line) = true := by rfl) : PEd X tb (.Call (.Attribute b nm apos) [] [] pos) ds f :=
  let ⟨_, p1, q1⟩ := ho; ⟨_, pe_bm0 pa slot hty hm p1 hbase hline, fun Hd H σ E Q z => q1 Hd H σ E _ fun x Hd1 H1 g dx => ⟨ty_of g.h dx ht, hr Hd1 H1 x [] g.h dx .nil Q fun v Hd3 H3 g3 dv => z v Hd3 H3 (g.trans g3) dv⟩⟩
/-! ### items, slices -/
theorem ed_ix {r : R2} (hr : IxR X r) (hd : RvD X.K tb r d e f) (ha : PEd X tb a ds d) (hb : PEd X tb b ds e) (hs : PlainIx b := by exact fun _ _ => rfl) : PEd X tb (.Subscript a b pos) ds f :=
  let ⟨_, p1, q1⟩ := ha; let ⟨_, p2, q2⟩ := hb; ⟨_, pe_ix hr p1 p2 hs, ev_op q1 q2 hd⟩
theorem od_none : POd X tb none ds none := ⟨_, po_none, fun Hd H _ E _ q => q Hd H (Gr.refl E.dh)⟩
theorem od_some {i : Int} (h : PEd X tb a ds (.int i)) : POd X tb (some a) ds (some i) := let ⟨_, p, q⟩ := h; ⟨_, po_some p, fun Hd H σ E Q z => q Hd H σ E _ fun x Hd1 H1 g dx => by
  cases dx
  exact ⟨i, rfl, z Hd1 H1 g⟩⟩
theorem ed_slice {rs : V → Option Int → Option Int → Hp → VK → Prop} {lo hi : Option Expr} {l u : Option Int} {p2 : Pos} (hr : SlR X rs) (hd : RsD X.K rs d l u f) (ha : PEd X tb a ds d) (hl : POd X tb lo ds l) (hu : POd X tb hi ds u) : PEd X tb (.Subscript a (.Slice lo hi none p2) pos) ds f :=
  let ⟨_, p1, q1⟩ := ha; let ⟨_, p2, q2⟩ := hl; let ⟨_, p3, q3⟩ := hu; ⟨_, pe_slice hr p1 p2 p3, fun Hd H σ E Q z => q1 Hd H σ E _ fun x Hd1 H1 g dx => q2 Hd1 H1 σ (E.up g) _ fun Hd2 H2 g2 => q3 Hd2 H2 σ ((E.up g).up g2) _ fun Hd3 H3 g3 =>
    hd Hd3 H3 x g3.h (Dp.up dx (g2.trans g3).d) Q fun v Hd4 H4 g4 dv => z v Hd4 H4 (((g.trans g2).trans g3).trans g4) dv⟩
end
end DL
namespace DL
open PySem PySem.Spec PyProof.Rows L2

/-! ### the operators on data -/
section
variable {K : PySem.W.Frag} {tb : List Addr}
theorem rv_I0 {g : Int → Int → V} {h : Int → Int → PyData} {i j : Int} (e : ∀ Hd, Dp K Hd (g i j) (h i j)) : RvD K tb (rI0 g) (.int i) (.int j) (h i j) := fun Hd H x y D _ dx dy Q q => by
  cases dx
  cases dy
  exact ⟨i, j, rfl, rfl, q _ Hd H (Gr.refl D) (e Hd)⟩
theorem rv_I {C : Int → Int → Prop} {g : Int → Int → V} {h : Int → Int → PyData} {i j : Int} (c : C i j) (e : ∀ Hd, Dp K Hd (g i j) (h i j)) : RvD K tb (rI C g) (.int i) (.int j) (h i j) := fun Hd H x y D _ dx dy Q q => by
  cases dx
  cases dy
  exact ⟨i, j, rfl, rfl, c, q _ Hd H (Gr.refl D) (e Hd)⟩
theorem ru_I {g : Int → V} {h : Int → PyData} {i : Int} (e : ∀ Hd, Dp K Hd (g i) (h i)) : RuD K (rU g) (.int i) (h i) := fun Hd H x D dx Q q => by
  cases dx
  exact ⟨i, rfl, q _ Hd H (Gr.refl D) (e Hd)⟩
variable {X : Cx} {ds : List Sl} {d e f : PyData} {a b : Expr} {pos : Pos}
theorem ed_add {i j : Int} (ha : PEd X tb a ds (.int i)) (hb : PEd X tb b ds (.int j)) : PEd X tb (.BinOp a .Add b pos) ds (.int (i + j)) := ed_op op_add (rv_I0 (h := fun i j => .int (i + j)) fun _ => .int _) ha hb
theorem ed_sub {i j : Int} (ha : PEd X tb a ds (.int i)) (hb : PEd X tb b ds (.int j)) : PEd X tb (.BinOp a .Sub b pos) ds (.int (i - j)) := ed_op op_sub (rv_I0 (h := fun i j => .int (i - j)) fun _ => .int _) ha hb
theorem ed_mul {i j : Int} (c : (-(2 ^ 64) < i ∧ i < 2 ^ 64) ∨ (-(2 ^ 64) < j ∧ j < 2 ^ 64)) (ha : PEd X tb a ds (.int i)) (hb : PEd X tb b ds (.int j)) : PEd X tb (.BinOp a .Mult b pos) ds (.int (i * j)) := ed_op op_mul (rv_I (h := fun i j => .int (i * j)) c fun _ => .int _) ha hb
theorem ed_fdiv {i j : Int} (ha : PEd X tb a ds (.int i)) (hb : PEd X tb b ds (.int j)) (c : 0 < j ∧ j < 1073741824 := by decide) : PEd X tb (.BinOp a .FloorDiv b pos) ds (.int (i / j)) := ed_op op_fdiv (rv_I (C := CDiv) (h := fun i j => .int (i / j)) c fun _ => .int _) ha hb
theorem ed_mod {i j : Int} (ha : PEd X tb a ds (.int i)) (hb : PEd X tb b ds (.int j)) (c : 0 < j := by decide) : PEd X tb (.BinOp a .Mod b pos) ds (.int (i % j)) := ed_op op_mod (rv_I (C := fun _ j => 0 < j) (h := fun i j => .int (i % j)) c fun _ => .int _) ha hb
theorem ed_neg {i : Int} (ha : PEd X tb a ds (.int i)) : PEd X tb (.UnaryOp .USub a pos) ds (.int (-i)) := ed_un un_neg (ru_I (h := fun i => .int (-i)) fun _ => .int _) ha
theorem dp_scal {Hd : Hp} {x y : V} (h : scal x y = true) : True := trivial
/-- scalar data as values -/
def scV : PyData → Option V
  | .bool b => some (.bl b)
  | .int i => some (.int i)
  | .str x => some (.str x)
  | _ => none
theorem scV_of {Hd : Hp} {v w : V} (h : Dp K Hd v d) (e : scV d = some w) : v = w := by
  cases d <;> first | (cases h; exact Option.some.inj e) | cases e
theorem rv_eq {v w : V} (h1 : scV d = some v) (h2 : scV e = some w) (h : scal v w = true) : RvD K tb rEq d e (.bool (decide (v = w))) := fun Hd H x y D _ dx dy Q q => by
  rw [scV_of dx h1, scV_of dy h2]
  exact ⟨h, q _ Hd H (Gr.refl D) (.bl _)⟩
theorem rv_ne {v w : V} (h1 : scV d = some v) (h2 : scV e = some w) (h : scal v w = true) : RvD K tb rNe d e (.bool (!decide (v = w))) := fun Hd H x y D _ dx dy Q q => by
  rw [scV_of dx h1, scV_of dy h2]
  exact ⟨h, q _ Hd H (Gr.refl D) (.bl _)⟩
theorem rv_eqI {i j : Int} : RvD K tb rEq (.int i) (.int j) (.bool (decide (i = j))) := by
  have z := rv_eq (K := K) (tb := tb) (d := .int i) (e := .int j) rfl rfl rfl
  rwa [show decide (V.int i = V.int j) = decide (i = j) from decide_eq_decide.mpr ⟨V.int.inj, congrArg _⟩] at z
theorem rv_neI {i j : Int} : RvD K tb rNe (.int i) (.int j) (.bool (!decide (i = j))) := by
  have z := rv_ne (K := K) (tb := tb) (d := .int i) (e := .int j) rfl rfl rfl
  rwa [show decide (V.int i = V.int j) = decide (i = j) from decide_eq_decide.mpr ⟨V.int.inj, congrArg _⟩] at z
theorem rv_eqS {i j : Str} : RvD K tb rEq (.str i) (.str j) (.bool (decide (i = j))) := by
  have z := rv_eq (K := K) (tb := tb) (d := .str i) (e := .str j) rfl rfl rfl
  rwa [show decide (V.str i = V.str j) = decide (i = j) from decide_eq_decide.mpr ⟨V.str.inj, congrArg _⟩] at z
theorem rv_neS {i j : Str} : RvD K tb rNe (.str i) (.str j) (.bool (!decide (i = j))) := by
  have z := rv_ne (K := K) (tb := tb) (d := .str i) (e := .str j) rfl rfl rfl
  rwa [show decide (V.str i = V.str j) = decide (i = j) from decide_eq_decide.mpr ⟨V.str.inj, congrArg _⟩] at z
theorem rv_eqB {i j : Bool} : RvD K tb rEq (.bool i) (.bool j) (.bool (decide (i = j))) := by
  have z := rv_eq (K := K) (tb := tb) (d := .bool i) (e := .bool j) rfl rfl rfl
  rwa [show decide (V.bl i = V.bl j) = decide (i = j) from decide_eq_decide.mpr ⟨V.bl.inj, congrArg _⟩] at z
theorem rv_neB {i j : Bool} : RvD K tb rNe (.bool i) (.bool j) (.bool (!decide (i = j))) := by
  have z := rv_ne (K := K) (tb := tb) (d := .bool i) (e := .bool j) rfl rfl rfl
  rwa [show decide (V.bl i = V.bl j) = decide (i = j) from decide_eq_decide.mpr ⟨V.bl.inj, congrArg _⟩] at z
theorem rv_eqD (sd : SeqAt.shaped d = true) (se : SeqAt.shaped e = true) : RvD K tb (rEqD K) d e (.bool (PyData.eqv d e)) := fun Hd H x y D _ dx dy Q q =>
  ⟨d, e, Dp.up dx D.s, Dp.up dy D.s, sd, se, q _ Hd H (Gr.refl D) (.bl _)⟩
theorem rv_neD (sd : SeqAt.shaped d = true) (se : SeqAt.shaped e = true) : RvD K tb (rNeD K) d e (.bool (!PyData.eqv d e)) := fun Hd H x y D _ dx dy Q q =>
  ⟨d, e, Dp.up dx D.s, Dp.up dy D.s, sd, se, q _ Hd H (Gr.refl D) (.bl _)⟩
theorem rv_inD {zs : List PyData} (sd : SeqAt.shaped d = true) (se : SeqAt.shaped (.list zs) = true) : RvD K tb (rInD K) d (.list zs) (.bool (zs.any fun z => PyData.eqv z d)) := fun Hd H x y D _ dx dy Q q =>
  ⟨d, zs, Dp.up dx D.s, Dp.up dy D.s, sd, se, q _ Hd H (Gr.refl D) (.bl _)⟩
theorem rv_lt {i j : Int} : RvD K tb (rI0 fun i j => .bl (decide (i < j))) (.int i) (.int j) (.bool (decide (i < j))) := rv_I0 (h := fun i j => .bool (decide (i < j))) fun _ => .bl _
theorem rv_le {i j : Int} : RvD K tb (rI0 fun i j => .bl (decide (i ≤ j))) (.int i) (.int j) (.bool (decide (i ≤ j))) := rv_I0 (h := fun i j => .bool (decide (i ≤ j))) fun _ => .bl _
theorem rv_gt {i j : Int} : RvD K tb (rI0 fun i j => .bl (decide (j < i))) (.int i) (.int j) (.bool (decide (j < i))) := rv_I0 (h := fun i j => .bool (decide (j < i))) fun _ => .bl _
theorem rv_ge {i j : Int} : RvD K tb (rI0 fun i j => .bl (decide (j ≤ i))) (.int i) (.int j) (.bool (decide (j ≤ i))) := rv_I0 (h := fun i j => .bool (decide (j ≤ i))) fun _ => .bl _
/-- text + text -/
theorem rv_addS {i j : Str} (h : i.length + j.length ≤ 16000000) : RvD K tb (fun x y H Q => ∃ i j, x = .str i ∧ y = .str j ∧ i.length + j.length ≤ sizeLine ∧ Q (.str (i ++ j)) H) (.str i) (.str j) (.str (i ++ j)) := fun Hd H x y D _ dx dy Q q => by
  cases dx
  cases dy
  exact ⟨i, j, rfl, rfl, Nat.le_trans h (by decide), q _ Hd H (Gr.refl D) (.str _)⟩
/-- list + list; any list that stands -/
def rCatS (K : PySem.W.Frag) : R2 := fun x y H Q => ∃ l b xs zs, x = .ref l ∧ y = .ref b ∧ SqL K H l xs ∧ SqL K H b zs ∧ xs.length + zs.length ≤ sizeLine ∧ ∀ p, H p = none → Q (.ref p) (upd H p (.lst (xs ++ zs)))
theorem rv_cat {xs ys : List PyData} (h : xs.length + ys.length ≤ 16000000) : RvD K tb (rCatS K) (.list xs) (.list ys) (.list (xs ++ ys)) := fun Hd H x y D _ dx dy Q q => by
  cases dx with
  | lst h1 h2 =>
    cases dy with
    | lst k1 k2 =>
      refine ⟨_, _, _, _, rfl, rfl, sl_sub D.s h1, sl_sub D.s k1, by rw [dpa_len h2, dpa_len k2]; exact Nat.le_trans h (by decide), fun p hp => q _ _ _ (Gr.new D hp fun _ z => HO.noConfusion z) ?_⟩
      exact .lst (.inl (.inl upd_same)) (DpAll.up (dpa_app h2 k2) (Gr.new D hp fun _ z => HO.noConfusion z).d)
/-- items -/
theorem atI_map {α β : Type} {xs : List α} {ys : List β} {i : Int} {y : β} (hl : xs.length = ys.length) (h : atI ys i = some y) : ∃ j, ixN ys.length i = some j ∧ ys[j]? = some y := by
  unfold atI at h
  cases q : ixN ys.length i with
  | none => rw [q] at h; cases h
  | some j => rw [q] at h; exact ⟨j, rfl, h⟩
theorem rv_ixL {xs : List PyData} {i : Int} (h : atI xs i = some f) : RvD K tb (rIxL K) (.list xs) (.int i) f := fun Hd H x y D _ dx dy Q q => by
  cases dy
  cases dx with
  | @lst a vs _ h1 h2 =>
    obtain ⟨j, e1, e2⟩ := atI_map (xs := vs) (dpa_len h2) h
    obtain ⟨v, e3, e4⟩ := dpa_get h2 e2
    exact ⟨_, vs, i, v, rfl, rfl, sl_sub D.s h1, by unfold atI; rw [dpa_len h2, e1]; exact e3, q _ Hd H (Gr.refl D) e4⟩
theorem rv_ixT {xs : List PyData} {i : Int} (h : atI xs i = some f) : RvD K tb (rIxT K) (.tuple xs) (.int i) f := fun Hd H x y D _ dx dy Q q => by
  cases dy
  cases dx with
  | @tup a vs _ h1 h2 =>
    obtain ⟨j, e1, e2⟩ := atI_map (xs := vs) (dpa_len h2) h
    obtain ⟨v, e3, e4⟩ := dpa_get h2 e2
    exact ⟨_, vs, i, v, rfl, rfl, st_sub D.s h1, by unfold atI; rw [dpa_len h2, e1]; exact e3, q _ Hd H (Gr.refl D) e4⟩
theorem rv_ixS {s : Str} {i : Int} {c : Nat} (hl : s.length ≤ 16000000) (h : atI s.cps.toList i = some c) : RvD K tb rIxS (.str s) (.int i) (.str ⟨#[c]⟩) := fun Hd H x y D _ dx dy Q q => by
  cases dx
  cases dy
  exact ⟨s, i, c, rfl, rfl, Nat.le_trans hl (by decide), h, q _ Hd H (Gr.refl D) (.str _)⟩
/-- slices -/
theorem rs_list {xs : List PyData} {l u : Option Int} : RsD K (rSlL K) (.list xs) l u (.list (cutD xs l u)) := fun Hd H x D dx Q q => by
  cases dx with
  | lst h1 h2 => exact ⟨_, _, rfl, sl_sub D.s h1, fun p hp => q _ _ _ (Gr.new D hp fun _ z => HO.noConfusion z) (.lst (.inl (.inl upd_same)) (DpAll.up (dpa_cut l u h2) (Gr.new D hp fun _ z => HO.noConfusion z).d))⟩
/-- len -/
theorem rc_lenS {z : Str} (h : z.length ≤ 16000000) : RcD K (fun xs H Q => ∃ z, xs = [.str z] ∧ z.length ≤ sizeLine ∧ Q (.int z.length) H) [.str z] (.int z.length) := fun Hd H xs D dx Q q => by
  cases dx with
  | cons h1 h2 =>
    cases h2
    cases h1
    exact ⟨z, rfl, Nat.le_trans h (by decide), q _ Hd H (Gr.refl D) (.int _)⟩
theorem rc_lenL {xs : List PyData} : RcD K (fun xs H Q => ∃ p ys, xs = [.ref p] ∧ (SqL K H p ys ∨ SqT K H p ys) ∧ Q (.int ys.length) H) [.list xs] (.int xs.length) := fun Hd H vs D dx Q q => by
  cases dx with
  | cons h1 h2 =>
    cases h2
    cases h1 with
    | lst k1 k2 => exact ⟨_, _, rfl, .inl (sl_sub D.s k1), q _ Hd H (Gr.refl D) (by rw [dpa_len k2]; exact .int _)⟩
theorem rc_lenT {xs : List PyData} : RcD K (fun xs H Q => ∃ p ys, xs = [.ref p] ∧ (SqL K H p ys ∨ SqT K H p ys) ∧ Q (.int ys.length) H) [.tuple xs] (.int xs.length) := fun Hd H vs D dx Q q => by
  cases dx with
  | cons h1 h2 =>
    cases h2
    cases h1 with
    | tup k1 k2 => exact ⟨_, _, rfl, .inr (st_sub D.s k1), q _ Hd H (Gr.refl D) (by rw [dpa_len k2]; exact .int _)⟩
end
end DL
namespace DL
open PySem PySem.Spec PyProof.Rows L2

section
variable {X : Cx} {tb : List Addr} {ds : List Sl} {d e f : PyData} {a b c : Expr} {pos : Pos}
theorem op_catS : OpR X (binaryOp .Add) (rCatS X.K) := by
  intro pins s σ H x y v u Q I rx ry h
  obtain ⟨l, b, xs, zs, rfl, rfl, hH, hB, hz, q⟩ := h
  cases rx
  cases ry
  obtain ⟨its, r, ⟨⟨cls, dd, data, sl⟩, n, e, hc, hd, hx⟩, z⟩ := I.list hH
  obtain ⟨its2, r2, ⟨⟨cls2, dd2, data2, sl2⟩, n2, e2, hc2, hd2, hx2⟩, z2⟩ := I.list hB
  simp only at hc hd hx hc2 hd2 hx2
  subst hc hd hx hc2 hd2 hx2
  have hl := r.length
  have hl2 := r2.length
  have ea : its.toArray ++ its2.toArray = (its ++ its2).toArray := by simp
  refine concat_meets ⟨_, e, rfl⟩ ⟨_, e2, rfl⟩ noFill_list_add seq_list_add PySem.F.slot_list_add PySem.F.entry_list_add (PySem.F.args_list_add_2 _ _) (list_addW l b its.toArray its2.toArray n n2 _ _ sl sl2 (by rw [List.size_toArray, List.size_toArray]; omega)) ⟨e, e2, ?_⟩
  rw [ea]
  exact ⟨.ref _, _, I.lnew (t' := s.toks) (r.append r2) (by rw [List.length_append]; omega), rfl, q _ I.fresh⟩
theorem ed_cat {xs ys : List PyData} (ha : PEd X tb a ds (.list xs)) (hb : PEd X tb b ds (.list ys)) (h : xs.length + ys.length ≤ 16000000) : PEd X tb (.BinOp a .Add b pos) ds (.list (xs ++ ys)) := ed_op op_catS (rv_cat h) ha hb
theorem ed_addS {i j : Str} (ha : PEd X tb a ds (.str i)) (hb : PEd X tb b ds (.str j)) (h : i.length + j.length ≤ 16000000) : PEd X tb (.BinOp a .Add b pos) ds (.str (i ++ j)) := ed_op op_add_str (rv_addS h) ha hb
theorem ed_ixL {xs : List PyData} {i : Int} (ha : PEd X tb a ds (.list xs)) (hb : PEd X tb b ds (.int i)) (h : atI xs i = some f) (hs : PlainIx b := by exact fun _ _ => rfl) : PEd X tb (.Subscript a b pos) ds f := ed_ix ix_list (rv_ixL h) ha hb hs
theorem ed_ixT {xs : List PyData} {i : Int} (ha : PEd X tb a ds (.tuple xs)) (hb : PEd X tb b ds (.int i)) (h : atI xs i = some f) (hs : PlainIx b := by exact fun _ _ => rfl) : PEd X tb (.Subscript a b pos) ds f := ed_ix ix_tup (rv_ixT h) ha hb hs
theorem ed_ixS {z : Str} {i : Int} {k : Nat} (ha : PEd X tb a ds (.str z)) (hb : PEd X tb b ds (.int i)) (hl : z.length ≤ 16000000) (h : atI z.cps.toList i = some k) (hs : PlainIx b := by exact fun _ _ => rfl) : PEd X tb (.Subscript a b pos) ds (.str ⟨#[k]⟩) := ed_ix ix_str (rv_ixS hl h) ha hb hs
theorem ed_slL {xs : List PyData} {lo hi : Option Expr} {l u : Option Int} {p2 : Pos} (ha : PEd X tb a ds (.list xs)) (hl : POd X tb lo ds l) (hu : POd X tb hi ds u) : PEd X tb (.Subscript a (.Slice lo hi none p2) pos) ds (.list (cutD xs l u)) := ed_slice sl_list rs_list ha hl hu
theorem rs_str {z : Str} {l u : Option Int} (h : z.length ≤ 16000000) : RsD X.K (fun x lo hi H Q => ∃ z, x = .str z ∧ z.length ≤ sizeLine ∧ Q (.str (cutS z lo hi)) H) (.str z) l u (.str (cutS z l u)) := fun Hd H x D dx Q q => by
  cases dx
  exact ⟨z, rfl, Nat.le_trans h (by decide), q _ Hd H (Gr.refl D) (.str _)⟩
theorem ed_slS {z : Str} {lo hi : Option Expr} {l u : Option Int} {p2 : Pos} (ha : PEd X tb a ds (.str z)) (hl : POd X tb lo ds l) (hu : POd X tb hi ds u) (h : z.length ≤ 16000000) : PEd X tb (.Subscript a (.Slice lo hi none p2) pos) ds (.str (cutS z l u)) := ed_slice sl_str (rs_str h) ha hl hu
theorem ed_lenL {xs : List PyData} {p : Pos} (hm : X.mg "len" = none) (ha : PEd X tb a ds (.list xs)) (hg : Gl X "len" := by rfl) (hs : starEach [a] X.env = [(false, eval a X.env)] := by rfl) : PEd X tb (.Call (.Name "len" p) [a] [] pos) ds (.int xs.length) :=
  ed_callB call_len_seq rc_lenL hm PySem.boot_len (ad_cons ha ad_nil hs) hg (by decide) (by decide) hs (by rfl)
theorem ed_lenT {xs : List PyData} {p : Pos} (hm : X.mg "len" = none) (ha : PEd X tb a ds (.tuple xs)) (hg : Gl X "len" := by rfl) (hs : starEach [a] X.env = [(false, eval a X.env)] := by rfl) : PEd X tb (.Call (.Name "len" p) [a] [] pos) ds (.int xs.length) :=
  ed_callB call_len_seq rc_lenT hm PySem.boot_len (ad_cons ha ad_nil hs) hg (by decide) (by decide) hs (by rfl)
theorem ed_lenS {z : Str} {p : Pos} (hm : X.mg "len" = none) (ha : PEd X tb a ds (.str z)) (h : z.length ≤ 16000000) (hg : Gl X "len" := by rfl) (hs : starEach [a] X.env = [(false, eval a X.env)] := by rfl) : PEd X tb (.Call (.Name "len" p) [a] [] pos) ds (.int z.length) :=
  ed_callB call_len_str (rc_lenS h) hm PySem.boot_len (ad_cons ha ad_nil hs) hg (by decide) (by decide) hs (by rfl)

/-! ### isinstance -/
def tyD : PyData → String
  | .none => "NoneType"
  | .bool _ => "bool"
  | .int _ => "int"
  | .str _ => "str"
  | .list _ => "list"
  | .tuple _ => "tuple"
  | .dict _ => "dict"
theorem tyx_of {K : PySem.W.Frag} {Hd H : Hp} {v : V} (D : DH Hd H) (h : Dp K Hd v d) : TyX K H v (.type (tyD d)) := by
  cases d with
  | none => cases h; exact .base .non
  | bool b => cases h; exact .base (.bl b)
  | int b => cases h; exact .base (.int b)
  | str b => cases h; exact .base (.str b)
  | list xs =>
    cases h with
    | lst h1 h2 =>
      rcases h1 with (h1 | ⟨o, h1⟩) | ⟨o, _, _, h1, h3, _⟩
      · exact .base (.lst (D.s _ _ h1))
      · exact .base (.frz (D.s _ _ h1))
      · exact .kList h1 h3
  | tuple xs =>
    cases h with
    | tup h1 h2 =>
      rcases h1 with (h1 | ⟨o, h1⟩) | ⟨o, _, _, h1, h3, _⟩
      · exact .base (.tup (D.s _ _ h1))
      · exact .fTuple (D.s _ _ h1)
      · exact .kTuple h1 h3
  | dict _ => cases h
theorem ed_isi {T : String} {Tn : Str} {p pT : Pos} {k : Bool} (hk : kitB (tyD d) T = some k) (hm : X.mg "isinstance" = none) (hT : X.mg Tn = none) (ha : PEd X tb a ds d) (hb : bootBuiltins Tn = some (.type T) := by decide +kernel) (hi : bootBuiltins "isinstance" = some (.builtin "isinstance") := by decide +kernel) (hg : Gl X "isinstance" := by rfl) (hgT : Gl X Tn := by rfl)
    (hn : Tn ≠ "__name__" := by decide) (hd : (Tn == ("__debug__" : Str)) = false := by decide)
    (hs : starEach [a, .Name Tn pT] X.env = (false, eval a X.env) :: starEach [.Name Tn pT] X.env := by rfl) (hs2 : starEach [.Name Tn pT] X.env = (false, eval (.Name Tn pT) X.env) :: starEach [] X.env := by rfl) (hpl : (backTo pos (starEach [.Name Tn pT] X.env)).any (·.1) = false := by rfl) :
    PEd X tb (.Call (.Name "isinstance" p) [a, .Name Tn pT] [] pos) ds (.bool k) :=
  let ⟨_, p1, q1⟩ := ha; ⟨_, pe_callB call_isi hg hm hi (pa_cons p1 (pa_cons (pe_bltn (v := .ty T) hgT hT hb rfl hn hd) pa_nil hs2) hs) (by decide) (by decide) hs hpl, fun Hd H σ E Q z => q1 Hd H σ E _ fun x Hd1 H1 g dx =>
    ⟨x, .ty T, _, _, k, rfl, .ty T, tyx_of g.h dx, kit_ty hk, z _ Hd1 H1 g (.bl k)⟩⟩
end
end DL
namespace DL
open PySem PySem.Spec PyProof.Rows L2

/-! ### the canonical readings -/
section
variable (X : Cx)
def wpE (e : Expr) : TE := fun σ H Q => ∃ t, PE X e t ∧ t σ H Q
def wpT (e : Expr) : TT := fun σ H Q => ∃ t, PT X e t ∧ t σ H Q
def wpS (s : Stmt) : TS := fun D σ H => ∃ t, PS X s t ∧ t D σ H
def wpB (s : List Stmt) : TS := fun D σ H => ∃ t, PSs X s t ∧ t D σ H
end
section
variable {X : Cx} {tb : List Addr} {ds : List Sl} {d : PyData} {e : Expr}
theorem pe_can : PE X e (wpE X e) := ⟨fun pins s σ H Q I ⟨t, p, h⟩ => p.run pins s σ H Q I h⟩
theorem pt_can : PT X e (wpT X e) := ⟨fun pins s σ H Q I ⟨t, p, h⟩ => p.run pins s σ H Q I h⟩
theorem ps_can {st : Stmt} : PS X st (wpS X st) := ⟨fun pins s σ H Q I ⟨t, p, h⟩ => p.run pins s σ H Q I h⟩
theorem pb_can {st : List Stmt} : PSs X st (wpB X st) := ⟨fun pins s σ H Q I ⟨t, p, h⟩ => p.run pins s σ H Q I h⟩
theorem PEd.can (h : PEd X tb e ds d) : EvE X.K tb (wpE X e) ds d := let ⟨t, p, q⟩ := h; fun Hd H σ E Q z => ⟨t, p, q Hd H σ E Q z⟩
theorem PTd.can {k : Bool} (h : PTd X tb e ds k) : EvT X.K tb (wpT X e) ds k := let ⟨t, p, q⟩ := h; fun Hd H σ E Q z => ⟨t, p, q Hd H σ E Q z⟩
end

/-! ### what a loop, a comprehension walks, as data -/
structure Walk (K : PySem.W.Frag) (J : It) (Hd1 : Hp) (items : List PyData) : Prop where
  go : ∀ (i : Nat) (Hd H : Hp), Sub Hd1 Hd → DH Hd H → i < items.length → J.go i H
  yl : ∀ (i : Nat) (Hd H : Hp) (x : V) (H' : Hp), Sub Hd1 Hd → DH Hd H → i < items.length → J.yld i H x H' → ∃ Hd' d, items[i]? = some d ∧ Gr Hd H Hd' H' ∧ Dp K Hd' x d
  st : ∀ (i : Nat) (Hd H : Hp), Sub Hd1 Hd → DH Hd H → items.length ≤ i → J.stop i H
def PId (X : Cx) (tb : List Addr) (tg iter : Expr) (ds : List Sl) (items : List PyData) : Prop := ∃ wi, PI X tg iter wi ∧ ∀ (Hd H : Hp) (σ : L2.St), Env X.K tb Hd H σ ds → ∀ R : It → Hp → Prop, (∀ J Hd1 H1, Gr Hd H Hd1 H1 → Walk X.K J Hd1 items → R J H1) → wi σ H R
section
variable {X : Cx} {tb : List Addr} {ds : List Sl} {tg a b : Expr} {pos p : Pos}
theorem id_list {xs : List PyData} (h : PEd X tb a ds (.list xs)) : PId X tb tg a ds xs :=
  let ⟨_, p, q⟩ := h; ⟨_, pi_list p, fun Hd H σ E R z => q Hd H σ E _ fun v Hd1 H1 g dv => by
    cases dv with
    | @lst a vs _ h1 h2 =>
      refine ⟨a, rfl, ⟨vs, sl_sub g.h.s h1⟩, z _ Hd1 H1 g ⟨fun i Hd' H' s D hi => ?_, fun i Hd' H' x H'' s D _ y => ?_, fun i Hd' H' s D hi => ?_⟩⟩
      · obtain ⟨v, e1, _⟩ := dpa_get (i := i) h2 (List.getElem?_eq_getElem hi)
        exact ⟨vs, v, sl_sub D.s (sl_sub s h1), e1⟩
      · obtain ⟨rfl, y⟩ := y
        obtain ⟨d, e1, e2⟩ := dpa_get' h2 (y vs (sl_sub D.s (sl_sub s h1)))
        exact ⟨Hd', d, e1, Gr.refl D, Dp.up e2 s⟩
      · exact ⟨vs, sl_sub D.s (sl_sub s h1), by rw [dpa_len h2]; exact hi⟩⟩
theorem id_tup {xs : List PyData} (h : PEd X tb a ds (.tuple xs)) : PId X tb tg a ds xs :=
  let ⟨_, p, q⟩ := h; ⟨_, pi_tup p, fun Hd H σ E R z => q Hd H σ E _ fun v Hd1 H1 g dv => by
    cases dv with
    | @tup a vs _ h1 h2 =>
      refine ⟨a, rfl, ⟨vs, st_sub g.h.s h1⟩, z _ Hd1 H1 g ⟨fun i Hd' H' s D hi => ?_, fun i Hd' H' x H'' s D _ y => ?_, fun i Hd' H' s D hi => ?_⟩⟩
      · obtain ⟨v, e1, _⟩ := dpa_get (i := i) h2 (List.getElem?_eq_getElem hi)
        exact ⟨vs, v, st_sub D.s (st_sub s h1), e1⟩
      · obtain ⟨rfl, y⟩ := y
        obtain ⟨d, e1, e2⟩ := dpa_get' h2 (y vs (st_sub D.s (st_sub s h1)))
        exact ⟨Hd', d, e1, Gr.refl D, Dp.up e2 s⟩
      · exact ⟨vs, st_sub D.s (st_sub s h1), by rw [dpa_len h2]; exact hi⟩⟩
/-- lo, lo + 1, .. -/
def rngD (lo : Int) (n : Nat) : List PyData := (List.range n).map fun (i : Nat) => .int (lo + (i : Int))
theorem walk_rng {K : PySem.W.Frag} {Hd1 : Hp} (lo : Int) (n : Nat) : Walk K (Itr lo n) Hd1 (rngD lo n) where
  go := fun i _ _ _ _ hi => by
    unfold rngD at hi
    rw [List.length_map, List.length_range] at hi
    exact hi
  yl := fun i Hd H x H' _ D hi y => by
    obtain ⟨rfl, rfl⟩ := y
    unfold rngD at hi
    rw [List.length_map, List.length_range] at hi
    refine ⟨Hd, .int (lo + i), ?_, Gr.refl D, .int _⟩
    unfold rngD
    rw [List.getElem?_map, List.getElem?_range hi] <;> rfl
  st := fun i _ _ _ _ hi => by
    unfold rngD at hi
    rw [List.length_map, List.length_range] at hi
    exact hi
theorem id_rng1 {j : Int} (hm : X.mg "range" = none) (h : PEd X tb a ds (.int j)) (hj : j < 2 ^ 62) (hl : -(2 ^ 62) ≤ j) (hg : Gl X "range" := by rfl) (hs : starEach [a] X.env = [(false, eval a X.env)] := by rfl) : PId X tb tg (.Call (.Name "range" p) [a] [] pos) ds (rngD 0 j.toNat) :=
  let ⟨_, p1, q1⟩ := ad_cons h ad_nil hs; ⟨_, pi_range1 hg hm p1 hs, fun Hd H σ E R z => q1 Hd H σ E _ fun vs Hd1 H1 g dv => by
    cases dv with
    | cons h1 h2 =>
      cases h2
      cases h1
      exact ⟨j, rfl, hl, hj, z _ Hd1 H1 g (walk_rng 0 _)⟩⟩
theorem id_rng2 {i j : Int} (hm : X.mg "range" = none) (h : PEd X tb a ds (.int i)) (h' : PEd X tb b ds (.int j)) (hi : -(2 ^ 62) ≤ i ∧ i < 2 ^ 62 ∧ -(2 ^ 62) ≤ j ∧ j < 2 ^ 62) (hg : Gl X "range" := by rfl) (hs : starEach [a, b] X.env = [(false, eval a X.env), (false, eval b X.env)] := by rfl)
    (hs2 : starEach [b] X.env = [(false, eval b X.env)] := by rfl) : PId X tb tg (.Call (.Name "range" p) [a, b] [] pos) ds (rngD i (j - i).toNat) :=
  let ⟨_, p1, q1⟩ := ad_cons h (ad_cons h' ad_nil hs2) (by rw [hs, hs2]); ⟨_, pi_range2 hg hm p1 hs hs2, fun Hd H σ E R z => q1 Hd H σ E _ fun vs Hd1 H1 g dv => by
    cases dv with
    | cons h1 h2 =>
      cases h2 with
      | cons h3 h4 =>
        cases h4
        cases h1
        cases h3
        exact ⟨i, j, rfl, hi, z _ Hd1 H1 g (walk_rng i _)⟩⟩
end

/-! ### statements -/
structure State (K : PySem.W.Frag) (tb : List Addr) (Hd0 H0 Hd H : Hp) (σ : L2.St) (ds : List Sl) : Prop where
  env : Env K tb Hd H σ ds
  gr : Gr Hd0 H0 Hd H
  fr : ∀ (i : Nat) (xs : List PyData) (a : Addr), ds[i]? = some (.own xs) → σ[i]? = some (some (.ref a)) → H0 a = none
inductive Out where
  | nx (ds : List Sl)
  | rt (d : PyData)
  /-- a new list is handed back, nobody else's -/
  | ro (xs : List PyData)
  | bk (ds : List Sl)
  | ct (ds : List Sl)
  | ex (c : Value)
abbrev WX' := Value → Option Addr → L2.St → Hp → Prop
def Post (K : PySem.W.Frag) (tb : List Addr) (W : WX') (Hd0 H0 Hd : Hp) (D : Ends) : Out → Prop
  | .nx ds => ∀ σ' Hd' H', State K tb Hd0 H0 Hd' H' σ' ds → Sub Hd Hd' → D.nx σ' H'
  | .bk ds => ∀ σ' Hd' H', State K tb Hd0 H0 Hd' H' σ' ds → Sub Hd Hd' → D.bk σ' H'
  | .ct ds => ∀ σ' Hd' H', State K tb Hd0 H0 Hd' H' σ' ds → Sub Hd Hd' → D.ct σ' H'
  | .rt d => ∀ v Hd' H', Gr Hd0 H0 Hd' H' → (∀ P ∈ tb, GxR.TabG H' P) → Dp K Hd' v d → D.rt v H'
  | .ro xs => ∀ (fo : Addr) (ws : List V) Hd' H', Gr Hd0 H0 Hd' H' → (∀ P ∈ tb, GxR.TabG H' P) → H0 fo = none → Hd' fo = none → H' fo = some (.lst ws) → DpAll K Hd' ws xs → D.rt (.ref fo) H'
  | .ex c => ∀ σ' Hd' H', Gr Hd0 H0 Hd' H' → (∀ P ∈ tb, GxR.TabG H' P) → W c none σ' H'
def Run (K : PySem.W.Frag) (tb : List Addr) (W : WX') (t : TS) (ds : List Sl) (o : Out) : Prop := ∀ (Hd0 H0 Hd H : Hp) (σ : L2.St) (D : Ends), State K tb Hd0 H0 Hd H σ ds → Post K tb W Hd0 H0 Hd D o → t D σ H
def PSd (X : Cx) (tb : List Addr) (W : WX') (s : Stmt) (ds : List Sl) (o : Out) : Prop := ∃ t, PS X s t ∧ Run X.K tb W t ds o
def PBd (X : Cx) (tb : List Addr) (W : WX') (s : List Stmt) (ds : List Sl) (o : Out) : Prop := ∃ t, PSs X s t ∧ Run X.K tb W t ds o
section
variable {K : PySem.W.Frag} {tb : List Addr} {W : WX'} {Hd0 H0 Hd H Hd' H' : Hp} {σ : L2.St} {ds es : List Sl}
theorem State.up (h : State K tb Hd0 H0 Hd H σ ds) (g : Gr Hd H Hd' H') : State K tb Hd0 H0 Hd' H' σ ds := ⟨h.env.up g, h.gr.trans g, h.fr⟩
theorem State.set (h : State K tb Hd0 H0 Hd H σ ds) {i : Nat} {v : V} {s : Sl} (hs : SlOk K Hd H (some v) s) (no : ∀ xs, s ≠ .own xs) : State K tb Hd0 H0 Hd H (σ.set i (some v)) (ds.set i s) := ⟨h.env.set hs no, h.gr, fun j xs a e1 e2 => by
  by_cases q : i = j
  · subst q
    have hi : i < ds.length := by
      have := (List.getElem?_eq_some_iff.mp e1).1
      rw [List.length_set] at this
      exact this
    rw [List.getElem?_set_self hi] at e1
    exact (no xs (Option.some.inj e1)).elim
  · rw [List.getElem?_set_ne q] at e1 e2
    exact h.fr j xs a e1 e2⟩
theorem Post.back {Hd1 : Hp} {D : Ends} (s : Sub Hd Hd1) : ∀ {o : Out}, Post K tb W Hd0 H0 Hd D o → Post K tb W Hd0 H0 Hd1 D o
  | .nx _, p => fun σ' Hd' H' z e => p σ' Hd' H' z (s.trans e)
  | .bk _, p => fun σ' Hd' H' z e => p σ' Hd' H' z (s.trans e)
  | .ct _, p => fun σ' Hd' H' z e => p σ' Hd' H' z (s.trans e)
  | .rt _, p => p
  | .ro _, p => p
  | .ex _, p => p
end
section
variable {X : Cx} {tb : List Addr} {W : WX'} {ds es : List Sl} {d : PyData} {a b c : Expr} {pos pos' : Pos} {st : Stmt} {rest r1 r2 : List Stmt} {o : Out}
theorem bd_nil : PBd X tb W [] ds (.nx ds) := ⟨_, pss_nil, fun Hd0 H0 Hd H σ D S p => p σ Hd H S (Sub.refl _)⟩
theorem bd_cons (h : PSd X tb W st ds (.nx es)) (k : PBd X tb W rest es o) : PBd X tb W (st :: rest) ds o :=
  let ⟨_, p1, q1⟩ := h; let ⟨_, p2, q2⟩ := k; ⟨_, pss_cons p1 p2, fun Hd0 H0 Hd H σ D S p => q1 Hd0 H0 Hd H σ _ S fun σ' Hd' H' S' s => q2 Hd0 H0 Hd' H' σ' D S' (p.back s)⟩
/-- a block that is left -/
def Out.left : Out → Bool
  | .nx _ => false
  | _ => true
theorem bd_left (h : PSd X tb W st ds o) (hl : o.left = true := by rfl) : PBd X tb W (st :: rest) ds o :=
  let ⟨_, p1, q1⟩ := h; ⟨_, pss_cons p1 pss_never, fun Hd0 H0 Hd H σ D S p => q1 Hd0 H0 Hd H σ _ S (by
    cases o with
    | nx _ => cases hl
    | _ => exact p)⟩
theorem bd_one (h : PSd X tb W st ds o) : PBd X tb W [st] ds o := let ⟨_, p1, q1⟩ := h; ⟨_, pss_one p1, q1⟩
theorem PBd.is {o' : Out} (h : PBd X tb W rest ds o) (e : o = o') : PBd X tb W rest ds o' := e ▸ h
theorem PSd.is {o' : Out} (h : PSd X tb W st ds o) (e : o = o') : PSd X tb W st ds o' := e ▸ h
theorem PBd.envIs (h : PBd X tb W rest es o) (e : ds = es) : PBd X tb W rest ds o := e ▸ h
theorem sd_pass : PSd X tb W (.Pass pos) ds (.nx ds) := ⟨_, ps_pass, fun Hd0 H0 Hd H σ D S p => p σ Hd H S (Sub.refl _)⟩
theorem sd_break : PSd X tb W (.Break pos) ds (.bk ds) := ⟨_, ps_break, fun Hd0 H0 Hd H σ D S p => p σ Hd H S (Sub.refl _)⟩
theorem sd_cont : PSd X tb W (.Continue pos) ds (.ct ds) := ⟨_, ps_continue, fun Hd0 H0 Hd H σ D S p => p σ Hd H S (Sub.refl _)⟩
theorem sd_ret (h : PEd X tb a ds d) : PSd X tb W (.Return (some a) pos) ds (.rt d) := let ⟨_, p1, q1⟩ := h; ⟨_, ps_ret p1, fun Hd0 H0 Hd H σ D S p => q1 Hd H σ S.env _ fun v Hd' H' g dv => p v Hd' H' (S.gr.trans g) (S.env.up g).tb dv⟩
theorem sd_retN : PSd X tb W (.Return none pos) ds (.rt .none) := ⟨_, ps_retN, fun Hd0 H0 Hd H σ D S p => p .non Hd H S.gr S.env.tb .non⟩
theorem sd_expr (h : PEd X tb a ds d) (hs : swapsWith a none pos.line X.env = pure false := by rfl) : PSd X tb W (.Expr a pos) ds (.nx ds) := let ⟨_, p1, q1⟩ := h; ⟨_, ps_expr p1 hs, fun Hd0 H0 Hd H σ D S p => q1 Hd H σ S.env _ fun v Hd' H' g dv => p σ Hd' H' (S.up g) g.d⟩
theorem sd_set (i : Nat) {x : Str} (h : PEd X tb a ds d) (hN : X.N.Nodup) (hi : X.N[i]? = some x := by rfl) (hx : locB X.env.scope x = true := by rfl) (hs : swapsWith a (some (.Name x pos')) pos.line X.env = pure false := by rfl)
    (hf : X.fn x = true ∨ X.env.scope.names.lookup x = some .local := by first | exact .inl rfl | exact .inr rfl) : PSd X tb W (.Assign [.Name x pos'] a pos) ds (.nx (ds.set i (.dat d))) :=
  let ⟨_, p1, q1⟩ := h; ⟨_, ps_set hN hi (locB_ok hx) p1 hs hf, fun Hd0 H0 Hd H σ D S p => q1 Hd H σ S.env _ fun v Hd' H' g dv => p _ Hd' H' ((S.up g).set (s := .dat d) dv fun _ z => nomatch z) g.d⟩
theorem sd_if {k : Bool} (hc : PTd X tb c ds k) (h1 : k = true → PBd X tb W r1 ds o) (h2 : k = false → PBd X tb W r2 ds o) : PSd X tb W (.If c r1 r2 pos) ds o := by
  obtain ⟨t, p, q⟩ := hc
  cases k with
  | true =>
    obtain ⟨u, p1, q1⟩ := h1 rfl
    exact ⟨_, ps_if p p1 pss_never, fun Hd0 H0 Hd H σ D S z => q Hd H σ S.env _ fun Hd' H' g => q1 Hd0 H0 Hd' H' σ D (S.up g) (z.back g.d)⟩
  | false =>
    obtain ⟨u, p1, q1⟩ := h2 rfl
    exact ⟨_, ps_if p pss_never p1, fun Hd0 H0 Hd H σ D S z => q Hd H σ S.env _ fun Hd' H' g => q1 Hd0 H0 Hd' H' σ D (S.up g) (z.back g.d)⟩
/-- if c: (leaves) .. rest -/
theorem bd_if {k : Bool} (hc : PTd X tb c ds k) (h1 : k = true → PBd X tb W r1 ds o) (hl : o.left = true := by rfl) (h2 : k = false → PBd X tb W rest ds o) : PBd X tb W (.If c r1 [] pos :: rest) ds o := by
  cases k with
  | true => exact bd_left (sd_if hc h1 fun z => nomatch z) hl
  | false => exact bd_cons (sd_if (o := .nx ds) hc (fun z => nomatch z) fun _ => bd_nil) (h2 rfl)
end
end DL
namespace DL
open PySem PySem.Spec PyProof.Rows L2

section
variable {X : Cx} {tb : List Addr} {W : WX'} {ds es : List Sl} {d : PyData} {a b c iter elt : Expr} {pos pos' px : Pos} {st : Stmt} {rest body : List Stmt} {o o' : Out} {x : Str}
theorem PBd.can (h : PBd X tb W body ds o) : Run X.K tb W (wpB X body) ds o := let ⟨t, p, q⟩ := h; fun Hd0 H0 Hd H σ D S z => ⟨t, p, q Hd0 H0 Hd H σ D S z⟩
/-- how a body's end becomes the loop's -/
inductive Leaves : Out → Out → Prop where
  | rt (d : PyData) : Leaves (.rt d) (.rt d)
  | ro (xs : List PyData) : Leaves (.ro xs) (.ro xs)
  | bk (ds : List Sl) : Leaves (.bk ds) (.nx ds)
  | ex (c : Value) : Leaves (.ex c) (.ex c)
inductive Goes : Out → List Sl → Prop where
  | nx (ds : List Sl) : Goes (.nx ds) ds
  | ct (ds : List Sl) : Goes (.ct ds) ds
/-- for: m turns go on, then the end, or a turn that leaves -/
theorem sd_forX {items : List PyData} (j : Nat) (m : Nat) (S : Nat → List Sl) (hp : PassesOwn (model X.prog X.w) X.A X.env X.xe) (hc : X.calm = true) (hi : PId X tb (.Name x px) iter ds items) (hN : X.N.Nodup) (h0 : S 0 = ds) (hm : m ≤ items.length)
    (hb : ∀ i d, i < m → items[i]? = some d → ∃ o', Goes o' (S (i + 1)) ∧ PBd X tb W body ((S i).set j (.dat d)) o')
    (he : (m = items.length ∧ o = .nx (S m)) ∨ ∃ d o', items[m]? = some d ∧ PBd X tb W body ((S m).set j (.dat d)) o' ∧ Leaves o' o)
    (hj : X.N[j]? = some x := by rfl) (hx : locB X.env.scope x = true := by rfl) (hf : X.fn x = true ∨ X.env.scope.names.lookup x = some .local := by first | exact .inl rfl | exact .inr rfl)
    (hs : ∀ x, foldedSetIterable iter X.env x = pure x := by intro _; rfl) : PSd X tb W (.For (.Name x px) iter body [] pos) ds o := by
  obtain ⟨wi, p1, q1⟩ := hi
  refine ⟨_, ps_for hp hc p1 (pg_name hN hj (locB_ok hx) hf) pb_can hs, fun Hd0 H0 Hd H σ D St z => q1 Hd H σ St.env _ fun J Hd1 H1 g wk => ?_⟩
  refine ⟨fun i mm σ' H' => mm = items.length - i ∧ i ≤ m ∧ ∃ Hd', State X.K tb Hd0 H0 Hd' H' σ' (S i) ∧ Sub Hd1 Hd', ⟨items.length, by simp, Nat.zero_le _, Hd1, by rw [h0]; exact St.up g, Sub.refl _⟩, ?_⟩
  rintro i mm σ' H' ⟨rfl, him, Hd', S', s'⟩
  by_cases hlt : i < m
  · have hil : i < items.length := Nat.lt_of_lt_of_le hlt hm
    refine .inr ⟨wk.go i Hd' H' s' S'.env.dh hil, _, fun σ2 H2 z2 => ⟨items.length - (i + 1), by omega, z2⟩, fun v H2 y => ?_⟩
    obtain ⟨Hd2, dd, e1, g2, dv⟩ := wk.yl i Hd' H' v H2 s' S'.env.dh hil y
    obtain ⟨o', go, hbb⟩ := hb i dd hlt e1
    have S2 := (S'.up g2).set (i := j) (s := .dat dd) dv fun _ z => nomatch z
    refine hbb.can Hd0 H0 Hd2 H2 _ _ S2 ?_
    cases go with
    | nx => exact fun σ3 Hd3 H3 S3 s3 => ⟨rfl, hlt, Hd3, S3, (s'.trans g2.d).trans s3⟩
    | ct => exact fun σ3 Hd3 H3 S3 s3 => ⟨rfl, hlt, Hd3, S3, (s'.trans g2.d).trans s3⟩
  · have e : i = m := by omega
    subst e
    rcases he with ⟨e1, e2⟩ | ⟨dd, o', e1, hbb, lv⟩
    · subst e2
      exact .inl ⟨wk.st i Hd' H' s' S'.env.dh (Nat.le_of_eq e1.symm), z σ' Hd' H' S' (g.d.trans s')⟩
    · have hil : i < items.length := (List.getElem?_eq_some_iff.mp e1).1
      refine .inr ⟨wk.go i Hd' H' s' S'.env.dh hil, fun _ _ => False, fun _ _ z => z.elim, fun v H2 y => ?_⟩
      obtain ⟨Hd2, d2, e3, g2, dv⟩ := wk.yl i Hd' H' v H2 s' S'.env.dh hil y
      have e4 : d2 = dd := Option.some.inj (e3.symm.trans e1)
      subst e4
      have S2 := (S'.up g2).set (i := j) (s := .dat d2) dv fun _ z => nomatch z
      refine hbb.can Hd0 H0 Hd2 H2 _ _ S2 ?_
      cases lv with
      | rt d => exact z
      | ro d => exact z
      | bk ds2 => exact fun σ3 Hd3 H3 S3 s3 => z σ3 Hd3 H3 S3 ((g.d.trans s').trans (g2.d.trans s3))
      | ex c => exact z
/-- .. to its end -/
theorem sd_for {items : List PyData} (j : Nat) (S : Nat → List Sl) (hp : PassesOwn (model X.prog X.w) X.A X.env X.xe) (hc : X.calm = true) (hi : PId X tb (.Name x px) iter ds items) (hN : X.N.Nodup) (h0 : S 0 = ds)
    (hb : ∀ i d, items[i]? = some d → PBd X tb W body ((S i).set j (.dat d)) (.nx (S (i + 1))))
    (hj : X.N[j]? = some x := by rfl) (hx : locB X.env.scope x = true := by rfl) (hf : X.fn x = true ∨ X.env.scope.names.lookup x = some .local := by first | exact .inl rfl | exact .inr rfl)
    (hs : ∀ x, foldedSetIterable iter X.env x = pure x := by intro _; rfl) : PSd X tb W (.For (.Name x px) iter body [] pos) ds (.nx (S items.length)) :=
  sd_forX j items.length S hp hc hi hN h0 (Nat.le_refl _) (fun i d _ e => ⟨_, .nx _, hb i d e⟩) (.inl ⟨rfl, rfl⟩) hj hx hf hs
/-- while -/
theorem sd_whileX (m : Nat) (S : Nat → List Sl) (hp : PassesOwn (model X.prog X.w) X.A X.env X.xe) (h0 : S 0 = ds)
    (hb : ∀ i, i < m → PTd X tb c (S i) true ∧ ∃ o', Goes o' (S (i + 1)) ∧ PBd X tb W body (S i) o')
    (he : (PTd X tb c (S m) false ∧ o = .nx (S m)) ∨ (PTd X tb c (S m) true ∧ ∃ o', PBd X tb W body (S m) o' ∧ Leaves o' o)) : PSd X tb W (.While c body [] pos) ds o := by
  refine ⟨_, ps_while hp pt_can pb_can, fun Hd0 H0 Hd H σ D St z => ?_⟩
  refine ⟨fun mm σ' H' => ∃ i, mm = m - i ∧ i ≤ m ∧ ∃ Hd', State X.K tb Hd0 H0 Hd' H' σ' (S i) ∧ Sub Hd Hd', ⟨m, 0, by simp, Nat.zero_le _, Hd, by rw [h0]; exact St, Sub.refl _⟩, ?_⟩
  rintro mm σ' H' ⟨i, rfl, him, Hd', S', s'⟩
  by_cases hlt : i < m
  · obtain ⟨ht, o', go, hbb⟩ := hb i hlt
    refine ht.can Hd' H' σ' S'.env _ fun Hd2 H2 g2 => ?_
    show if true = true then _ else _
    refine iteT ⟨_, fun σ3 H3 z3 => ⟨m - (i + 1), by omega, i + 1, z3⟩, ?_⟩
    refine hbb.can Hd0 H0 Hd2 H2 _ _ (S'.up g2) ?_
    cases go with
    | nx => exact fun σ3 Hd3 H3 S3 s3 => ⟨rfl, hlt, Hd3, S3, (s'.trans g2.d).trans s3⟩
    | ct => exact fun σ3 Hd3 H3 S3 s3 => ⟨rfl, hlt, Hd3, S3, (s'.trans g2.d).trans s3⟩
  · have e : i = m := by omega
    subst e
    rcases he with ⟨ht, e2⟩ | ⟨ht, o', hbb, lv⟩
    · subst e2
      refine ht.can Hd' H' σ' S'.env _ fun Hd2 H2 g2 => ?_
      show if false = true then _ else _
      exact iteF (z σ' Hd2 H2 (S'.up g2) (s'.trans g2.d))
    · refine ht.can Hd' H' σ' S'.env _ fun Hd2 H2 g2 => ?_
      show if true = true then _ else _
      refine iteT ⟨fun _ _ => False, fun _ _ z => z.elim, ?_⟩
      refine hbb.can Hd0 H0 Hd2 H2 _ _ (S'.up g2) ?_
      cases lv with
      | rt d => exact z
      | ro d => exact z
      | bk ds2 => exact fun σ3 Hd3 H3 S3 s3 => z σ3 Hd3 H3 S3 ((s'.trans g2.d).trans s3)
      | ex c => exact z
theorem sd_while (m : Nat) (S : Nat → List Sl) (hp : PassesOwn (model X.prog X.w) X.A X.env X.xe) (h0 : S 0 = ds)
    (hb : ∀ i, i < m → PTd X tb c (S i) true ∧ PBd X tb W body (S i) (.nx (S (i + 1)))) (he : PTd X tb c (S m) false) : PSd X tb W (.While c body [] pos) ds (.nx (S m)) :=
  sd_whileX m S hp h0 (fun i h => ⟨(hb i h).1, _, .nx _, (hb i h).2⟩) (.inl ⟨he, rfl⟩)

/-! ### own lists -/
theorem bd_own (i : Nat) {x : Str} {pos1 pos2 : Pos} (h : PBd X tb W rest (ds.set i (.own [])) o) (hN : X.N.Nodup) (hi : X.N[i]? = some x := by rfl) (hx : locB X.env.scope x = true := by rfl) (hs : swapsWith (.List [] pos1) (some (.Name x pos')) pos2.line X.env = pure false := by rfl)
    (hf : X.fn x = true ∨ X.env.scope.names.lookup x = some .local := by first | exact .inl rfl | exact .inr rfl) : PBd X tb W (.Assign [.Name x pos'] (.List [] pos1) pos2 :: rest) ds o := by
  refine bd_cons (es := ds.set i (.own [])) ⟨_, ps_set hN hi (locB_ok hx) (pe_lst pa_nil) hs hf, fun Hd0 H0 Hd H σ D S p => ?_⟩ h
  refine ⟨Nat.zero_le _, fun q hq => ?_⟩
  have g := Gr.newOut (o := .lst []) S.env.dh hq
  have hd0 : Hd q = none := by
    cases e : Hd q with
    | none => rfl
    | some u =>
      have := S.env.dh.s q u e
      rw [hq] at this
      cases this
  have E := S.env.up g
  have h00 : H0 q = none := S.gr.e.n q hq
  refine p (σ.set i (some (.ref q))) Hd (upd H q (.lst [])) ⟨⟨by rw [List.length_set, List.length_set]; exact E.len, E.dh, E.tb, fun j t e => ?_, fun j k xs ys a n e1 e2 e3 e4 => ?_⟩, S.gr.trans g, fun j xs a e1 e2 => ?_⟩ (Sub.refl _)
  · by_cases qq : i = j
    · subst qq
      have hil : i < ds.length := by
        have := (List.getElem?_eq_some_iff.mp e).1
        rw [List.length_set] at this
        exact this
      rw [List.getElem?_set_self hil] at e
      cases e
      exact ⟨_, List.getElem?_set_self (by rw [E.len]; exact hil), q, [], rfl, upd_same, hd0, .nil⟩
    · rw [List.getElem?_set_ne qq] at e
      obtain ⟨oo, k1, k2⟩ := E.sl j t e
      exact ⟨oo, by rw [List.getElem?_set_ne qq]; exact k1, k2⟩
  · have fresh : ∀ (m : Nat) (zs : List PyData), i ≠ m → (ds.set i (.own []))[m]? = some (.own zs) → (σ.set i (some (.ref q)))[m]? = some (some (.ref q)) → False := fun m zs hne f1 f2 => by
      rw [List.getElem?_set_ne hne] at f1 f2
      obtain ⟨b, vs, f3, f4, _, _⟩ := S.env.own f1
      rw [f2] at f3
      have eb : q = b := V.ref.inj (Option.some.inj (Option.some.inj f3))
      rw [← eb, hq] at f4
      cases f4
    have self : ∀ {t : Option V}, (σ.set i (some (V.ref q)))[i]? = some t → t = some (.ref q) := fun {t} f => by
      have hil : i < σ.length := by
        have := (List.getElem?_eq_some_iff.mp f).1
        rw [List.length_set] at this
        exact this
      rw [List.getElem?_set_self hil] at f
      exact (Option.some.inj f).symm
    by_cases q1 : i = j
    · subst q1
      have ea : a = q := V.ref.inj (Option.some.inj (self e3))
      subst ea
      exact fresh k ys n e2 e4
    · by_cases q2 : i = k
      · subst q2
        have ea : a = q := V.ref.inj (Option.some.inj (self e4))
        subst ea
        exact fresh j xs q1 e1 e3
      · rw [List.getElem?_set_ne q1] at e1 e3
        rw [List.getElem?_set_ne q2] at e2 e4
        exact S.env.ap j k xs ys a n e1 e2 e3 e4
  · by_cases q1 : i = j
    · subst q1
      have hil : i < σ.length := by
        have := (List.getElem?_eq_some_iff.mp e2).1
        rw [List.length_set] at this
        exact this
      rw [List.getElem?_set_self hil] at e2
      have ea : q = a := V.ref.inj (Option.some.inj (Option.some.inj e2))
      rw [← ea]
      exact h00
    · rw [List.getElem?_set_ne q1] at e1 e2
      exact S.fr j xs a e1 e2
end
end DL
namespace DL
open PySem PySem.Spec PyProof.Rows L2

section
variable {K : PySem.W.Frag} {tb : List Addr} {Hd0 H0 Hd H Hd' H' : Hp} {σ : L2.St} {ds : List Sl}
theorem not_tab {H : Hp} {a P : Addr} {vs : List V} (h : H a = some (.lst vs)) (t : GxR.TabG H P) : P ≠ a := fun e => by
  obtain ⟨ps, e1, _⟩ := t
  rw [e, h] at e1
  cases e1
/-- an own list is changed -/
theorem State.putOwn (S : State K tb Hd0 H0 Hd H σ ds) {i : Nat} {xs ys : List PyData} {a : Addr} {vs ws : List V} (e : ds[i]? = some (.own xs)) (ea : σ[i]? = some (some (.ref a))) (hl : H a = some (.lst vs)) (hd : Hd a = none) (hw : DpAll K Hd ws ys) :
    State K tb Hd0 H0 Hd (upd H a (.lst ws)) σ (ds.set i (.own ys)) := by
  have h00 := S.fr i xs a e ea
  have il : i < ds.length := (List.getElem?_eq_some_iff.mp e).1
  refine ⟨⟨by rw [List.length_set]; exact S.env.len, ⟨fun b o q => ?_, S.env.dh.nt⟩, fun P hp => ?_, fun j t q => ?_, fun j k zs ws' b n e1 e2 e3 e4 => ?_⟩, ⟨S.gr.d, ⟨fun b o q => ?_, S.env.dh.nt⟩, ⟨fun b o q n => ?_, fun P t => ?_, fun b q => ?_⟩, S.gr.f⟩, fun j zs b e1 e2 => ?_⟩
  · rw [upd_ne (ne_of_none q hd)]
    exact S.env.dh.s b o q
  · obtain ⟨ps, e1, e2⟩ := S.env.tb P hp
    exact ⟨ps, by rw [upd_ne (not_tab hl ⟨ps, e1, e2⟩)]; exact e1, e2⟩
  · by_cases q1 : i = j
    · subst q1
      rw [List.getElem?_set_self il] at q
      cases q
      exact ⟨_, ea, a, ws, rfl, upd_same, hd, hw⟩
    · rw [List.getElem?_set_ne q1] at q
      obtain ⟨oo, k1, k2⟩ := S.env.sl j t q
      refine ⟨oo, k1, ?_⟩
      cases t with
      | no => cases oo <;> trivial
      | dat d => cases oo <;> exact k2
      | val w => cases oo <;> exact k2
      | hp φ st => cases oo <;> exact k2
      | own zs =>
        cases oo with
        | none => exact k2.elim
        | some v =>
          obtain ⟨b, us, f1, f2, f3, f4⟩ := k2
          have nb : b ≠ a := fun z => by
            rw [f1, z] at k1
            exact S.env.ap i j xs zs a q1 e q ea k1
          exact ⟨b, us, f1, by rw [upd_ne nb]; exact f2, f3, f4⟩
  · have own : ∀ (m : Nat) (zs : List PyData), (ds.set i (.own ys))[m]? = some (.own zs) → ∃ zs', ds[m]? = some (.own zs') := fun m zs f => by
      by_cases q1 : i = m
      · subst q1
        exact ⟨xs, e⟩
      · rw [List.getElem?_set_ne q1] at f
        exact ⟨zs, f⟩
    obtain ⟨z1, f1⟩ := own j zs e1
    obtain ⟨z2, f2⟩ := own k ws' e2
    exact S.env.ap j k z1 z2 b n f1 f2 e3 e4
  · rw [upd_ne (ne_of_none q hd)]
    exact S.env.dh.s b o q
  · rw [upd_ne (ne_of_none q h00)]
    exact S.gr.e.k b o q n
  · obtain ⟨ps, e1, e2⟩ := S.gr.e.t P t
    exact ⟨ps, by rw [upd_ne (not_tab hl ⟨ps, e1, e2⟩)]; exact e1, e2⟩
  · by_cases q1 : b = a
    · rw [q1]; exact h00
    · rw [upd_ne q1] at q
      exact S.gr.e.n b q
  · by_cases q1 : i = j
    · subst q1
      exact S.fr i xs b e e2
    · rw [List.getElem?_set_ne q1] at e1
      exact S.fr j zs b e1 e2
/-- an own list that is not changed any more is data -/
theorem State.freeze (S : State K tb Hd0 H0 Hd H σ ds) {i : Nat} {xs : List PyData} (e : ds[i]? = some (.own xs)) : ∃ Hd', Sub Hd Hd' ∧ State K tb Hd0 H0 Hd' H σ (ds.set i (.dat (.list xs))) := by
  obtain ⟨a, vs, ea, hl, hd, hx⟩ := S.env.own e
  have h00 := S.fr i xs a e ea
  have il : i < ds.length := (List.getElem?_eq_some_iff.mp e).1
  have s : Sub Hd (upd Hd a (.lst vs)) := fun b o q => by rw [upd_ne (ne_of_none q hd)]; exact q
  have D : DH (upd Hd a (.lst vs)) H := ⟨fun b o q => by
      by_cases z : b = a
      · rw [z, upd_same] at q
        rw [z, hl, q]
      · rw [upd_ne z] at q
        exact S.env.dh.s b o q, fun b ps q => by
      by_cases z : b = a
      · rw [z, upd_same] at q
        cases q
      · rw [upd_ne z] at q
        exact S.env.dh.nt b ps q⟩
  refine ⟨_, s, ⟨⟨by rw [List.length_set]; exact S.env.len, D, S.env.tb, fun j t q => ?_, fun j k zs ws' b n e1 e2 e3 e4 => ?_⟩, ⟨S.gr.d.trans s, D, S.gr.e, fun b q n => ?_⟩, fun j zs b e1 e2 => ?_⟩⟩
  · by_cases q1 : i = j
    · subst q1
      rw [List.getElem?_set_self il] at q
      cases q
      exact ⟨_, ea, .lst (.inl (.inl upd_same)) (DpAll.up hx s)⟩
    · rw [List.getElem?_set_ne q1] at q
      obtain ⟨oo, k1, k2⟩ := S.env.sl j t q
      refine ⟨oo, k1, ?_⟩
      cases t with
      | no => cases oo <;> trivial
      | dat d =>
        cases oo with
        | none => exact k2.elim
        | some v => exact Dp.up k2 s
      | val w => cases oo <;> exact k2
      | hp φ st =>
        cases oo with
        | none => exact k2.elim
        | some v => exact st v _ _ s k2
      | own zs =>
        cases oo with
        | none => exact k2.elim
        | some v =>
          obtain ⟨b, us, f1, f2, f3, f4⟩ := k2
          have nb : b ≠ a := fun z => by
            rw [f1, z] at k1
            exact S.env.ap i j xs zs a q1 e q ea k1
          exact ⟨b, us, f1, f2, by rw [upd_ne nb]; exact f3, DpAll.up f4 s⟩
  · have n1 : i ≠ j := fun q => by
      subst q
      rw [List.getElem?_set_self il] at e1
      cases e1
    have n2 : i ≠ k := fun q => by
      subst q
      rw [List.getElem?_set_self il] at e2
      cases e2
    rw [List.getElem?_set_ne n1] at e1
    rw [List.getElem?_set_ne n2] at e2
    exact S.env.ap j k zs ws' b n e1 e2 e3 e4
  · by_cases z : b = a
    · rw [z] at n
      exact absurd h00 n
    · rw [upd_ne z]
      exact S.gr.f b q n
  · have n1 : i ≠ j := fun q => by
      subst q
      rw [List.getElem?_set_self il] at e1
      cases e1
    rw [List.getElem?_set_ne n1] at e1
    exact S.fr j zs b e1 e2
end
section
variable {X : Cx} {tb : List Addr} {W : WX'} {ds es : List Sl} {d : PyData} {a b c iter elt : Expr} {pos pos' px apos : Pos} {st : Stmt} {rest body : List Stmt} {o o' : Out} {x : Str}
theorem bd_freeze (i : Nat) {xs : List PyData} (h : PBd X tb W rest (ds.set i (.dat (.list xs))) o) (e : ds[i]? = some (.own xs) := by rfl) : PBd X tb W rest ds o :=
  let ⟨_, p, q⟩ := h; ⟨_, p, fun Hd0 H0 Hd H σ D S z => let ⟨Hd', s, S'⟩ := S.freeze e; q Hd0 H0 Hd' H σ D S' (z.back s)⟩
/-- x.append(e), x's list one's own -/
theorem sd_append (i : Nat) {xs : List PyData} {p1 p2 : Pos} (h : PEd X tb a ds d) (hz : xs.length < 1000000) (e : ds[i]? = some (.own xs) := by rfl) (hN : X.N[i]? = some x := by rfl) (hv : visB X.env.scope x = true := by rfl) (h1 : (x == ("__debug__" : Str)) = false := by decide)
    (h2 : (x == ("__classdict__" : Str)) = false := by decide) (hbase : attributeBase (.Name x p1) "append" X.env (eval (.Name x p1) X.env) = eval (.Name x p1) X.env := by rfl)
    (hfew : ((backTo p2 (starEach [a] X.env)).all (fun x => !x.1) && (backToKw p2 (keywordEach [] X.env)).all (fun x => x.1.isSome)
      && decide ([a].length + ([] : List Keyword).length + (if ([] : List Keyword).isEmpty then 0 else 1) < 30)) = true := by rfl)
    (hline : (apos.endLine == p2.line) = true := by rfl) (hs : starEach [a] X.env = (false, eval a X.env) :: starEach [] X.env := by rfl) (hplain : (backTo p2 (starEach [] X.env)).any (·.1) = false := by rfl) (hsw : swapsWith (.Call (.Attribute (.Name x p1) "append" apos) [a] [] p2) none pos.line X.env = pure false := by rfl) :
    PSd X tb W (.Expr (.Call (.Attribute (.Name x p1) "append" apos) [a] [] p2) pos) ds (.nx (ds.set i (.own (xs ++ [d])))) := by
  obtain ⟨t, p, q⟩ := h
  refine ⟨_, ps_expr (pe_bm PySem.F.plainAttrs_list PySem.F.slot_list_append PySem.F.type_list_append mt_append (pe_var hN (visB_ok hv) h1 h2) (pa_cons p pa_nil hs) hbase hfew hline hs hplain) hsw, fun Hd0 H0 Hd H σ D S z => ?_⟩
  obtain ⟨l, vs, ea, hl, hd, hx⟩ := S.env.own e
  refine ⟨.ref l, ea, .inl ⟨rfl, vs, .inl (.inl hl)⟩, q Hd H σ S.env _ fun v Hd' H' g dv => ?_⟩
  have S' := S.up g
  obtain ⟨l2, vs2, ea2, hl2, hd2, hx2⟩ := S'.env.own e
  have el : l2 = l := V.ref.inj (Option.some.inj (Option.some.inj (ea2.symm.trans ea)))
  subst el
  refine ⟨l2, vs2, v, rfl, rfl, hl2, by rw [dpa_len hx2]; exact Nat.lt_of_lt_of_le hz (by decide), ?_⟩
  exact z σ Hd' _ (S'.putOwn e ea2 hl2 hd2 (dpa_app hx2 (.cons dv .nil))) g.d
/-- [e for x in it if ..] -/
theorem ed_lcX {α : Type} {scope : Scope} {ifs : List Expr} (j : Nat) (ys : List α) (enc F : α → PyData) (p : α → Bool) (hc : X.calm = true) (hN : X.N.Nodup) (hi : PId X tb (.Name x px) iter ds (ys.map enc)) (hlen : ys.length ≤ 1000000) (ok : BlkOk X.N X.env.scope scope [(x, j)])
    (hg : ∀ (s : Shared) (H : Hp) (C : Addr) (cl : List (Str × Addr)) (fp : List Addr), PG (X.blk s H scope (compEnvC scope cl C X.env) fp) (.Name x px) (gName j))
    (ht : ∀ y ∈ ys, ∀ (s : Shared) (H : Hp) (C : Addr) (cl : List (Str × Addr)) (fp : List Addr), ∃ t, PTs (X.blk s H scope (compEnvC scope cl C X.env) fp) ifs t ∧ EvT X.K tb t (ds.set j (.dat (enc y))) (p y))
    (he : ∀ y ∈ ys, p y = true → ∀ (s : Shared) (H : Hp) (C : Addr) (cl : List (Str × Addr)) (fp : List Addr), PEd (X.blk s H scope (compEnvC scope cl C X.env) fp) tb elt (ds.set j (.dat (enc y))) (F y))
    (hs : ∀ x, foldedSetIterable iter X.env x = pure x := by intro _; rfl) : PEd X tb (.ListComp elt [⟨.Name x px, iter, ifs, 0⟩] scope pos) ds (.list ((ys.filter p).map F)) := by
  obtain ⟨wi, p1, q1⟩ := hi
  refine ⟨_, pe_lc (own := [(x, j)]) (g := gName j) (tt := fun σ H Q => ∀ (s : Shared) (H' : Hp) (C : Addr) (cl : List (Str × Addr)) (fp : List Addr), ∃ t, PTs (X.blk s H' scope (compEnvC scope cl C X.env) fp) ifs t ∧ t σ H Q)
    (te := fun σ H Q => ∀ (s : Shared) (H' : Hp) (C : Addr) (cl : List (Str × Addr)) (fp : List Addr), wpE (X.blk s H' scope (compEnvC scope cl C X.env) fp) elt σ H Q) hc hN p1 ok hg
    (fun s H C cl fp => ⟨fun pins s' σ H' Q I h => let ⟨t, a1, a2⟩ := h s H C cl fp; a1.run pins s' σ H' Q I a2⟩) (fun s H C cl fp => ⟨fun pins s' σ H' Q I h => pe_can.run pins s' σ H' Q I (h s H C cl fp)⟩) hs, fun Hd H σ E Q z => ?_⟩
  refine q1 Hd H σ E _ fun J Hd1 H1 g wk D hD => ?_
  have hd0 : Hd1 D = none := by
    cases e : Hd1 D with
    | none => rfl
    | some u =>
      have := g.h.s D u e
      rw [hD] at this
      cases this
  -- W: what is made so far
  refine ⟨fun i mm H' => mm = ys.length - i ∧ i ≤ ys.length ∧ ∃ Hd' vs, Gr Hd1 H1 Hd' H' ∧ Hd' D = none ∧ H' D = some (.lst vs) ∧ DpAll X.K Hd' vs (((ys.take i).filter p).map F), ⟨ys.length, by simp, Nat.zero_le _, Hd1, [], Gr.newOut g.h hD, hd0, upd_same, .nil⟩, ?_⟩
  rintro i mm H' ⟨rfl, him, Hd', vs, g', d0, hl, hv⟩
  have E' : Env X.K tb Hd' H' σ ds := (E.up g).up g'
  have W' : Env X.K tb Hd' H' (wipe σ [j]) (ds.set j .no) := ⟨by show (List.set σ j none).length = _; rw [List.length_set, List.length_set]; exact E'.len, E'.dh, E'.tb, fun k t e => by
      show ∃ o, (List.set σ j none)[k]? = some o ∧ _
      by_cases q : j = k
      · subst q
        have hj : j < ds.length := by
          have := (List.getElem?_eq_some_iff.mp e).1
          rw [List.length_set] at this
          exact this
        rw [List.getElem?_set_self hj] at e
        cases e
        exact ⟨none, List.getElem?_set_self (by rw [E'.len]; exact hj), trivial⟩
      · rw [List.getElem?_set_ne q] at e
        obtain ⟨oo, k1, k2⟩ := E'.sl k t e
        exact ⟨oo, by rw [List.getElem?_set_ne q]; exact k1, k2⟩, fun k l xs zs a n e1 e2 e3 e4 => by
      have nj : ∀ (m : Nat) (us : List PyData), (ds.set j .no)[m]? = some (.own us) → j ≠ m := fun m us e q => by
        subst q
        have hj : j < ds.length := by
          have := (List.getElem?_eq_some_iff.mp e).1
          rw [List.length_set] at this
          exact this
        rw [List.getElem?_set_self hj] at e
        cases e
      have n1 := nj k xs e1
      have n2 := nj l zs e2
      rw [List.getElem?_set_ne n1] at e1
      rw [List.getElem?_set_ne n2] at e2
      have e3' : (List.set σ j none)[k]? = some (some (V.ref a)) := e3
      have e4' : (List.set σ j none)[l]? = some (some (V.ref a)) := e4
      rw [List.getElem?_set_ne n1] at e3'
      rw [List.getElem?_set_ne n2] at e4'
      exact E'.ap k l xs zs a n e1 e2 e3' e4'⟩
  by_cases hlt : i < ys.length
  · have hil : i < (ys.map enc).length := by rw [List.length_map]; exact hlt
    have hy : ys[i] ∈ ys := List.getElem_mem hlt
    refine .inr ⟨wk.go i Hd' H' g'.d g'.h hil, fun H2 => i + 1 ≤ ys.length ∧ ∃ Hd2 vs, Gr Hd1 H1 Hd2 H2 ∧ Hd2 D = none ∧ H2 D = some (.lst vs) ∧ DpAll X.K Hd2 vs (((ys.take (i + 1)).filter p).map F), fun H2 z2 => ⟨ys.length - (i + 1), by omega, rfl, z2⟩, fun v H2 y => ?_⟩
    obtain ⟨Hd2, dd, e1, g2, dv⟩ := wk.yl i Hd' H' v H2 g'.d g'.h hil y
    have ed : dd = enc ys[i] := by
      rw [List.getElem?_map, List.getElem?_eq_getElem hlt] at e1
      exact (Option.some.inj e1).symm
    subst ed
    have hjσ : ∀ u : V, wipe ((wipe σ [j]).set j (some u)) [j] = wipe σ [j] := fun u => by
      show List.set (List.set (List.set σ j none) j (some u)) j none = List.set σ j none
      rw [List.set_set, List.set_set]
    refine ⟨hjσ v, fun s Hx C cl fp => ?_⟩
    have E2 : Env X.K tb Hd2 H2 ((wipe σ [j]).set j (some v)) (ds.set j (.dat (enc ys[i]))) := by
      have := (W'.up g2).set (i := j) (s := .dat (enc ys[i])) dv fun _ z => nomatch z
      rwa [List.set_set] at this
    obtain ⟨t, t1, t2⟩ := ht ys[i] hy s Hx C cl fp
    refine ⟨t, t1, t2 Hd2 H2 _ E2 _ fun Hd3 H3 g3 => ?_⟩
    have tk : ys.take (i + 1) = ys.take i ++ [ys[i]] := by rw [List.take_add_one, List.getElem?_eq_getElem hlt] <;> rfl
    have g13 : Gr Hd1 H1 Hd3 H3 := (g'.trans g2).trans g3
    have d3 : Hd3 D = none := (g2.trans g3).f D d0 (by rw [hl]; exact fun z => nomatch z)
    have l3 : H3 D = some (.lst vs) := (g2.trans g3).e.k D _ hl fun _ z => nomatch z
    cases hp : p ys[i] with
    | true =>
      refine iteT fun s Hx C cl fp => (he ys[i] hy hp s Hx C cl fp).can Hd3 H3 _ (E2.up g3) _ fun w Hd4 H4 g4 dw => ?_
      have d4 : Hd4 D = none := g4.f D d3 (by rw [l3]; exact fun z => nomatch z)
      have l4 : H4 D = some (.lst vs) := g4.e.k D _ l3 fun _ z => nomatch z
      have lv : vs.length ≤ ys.length := by
        rw [dpa_len hv, List.length_map]
        exact Nat.le_trans (List.length_filter_le _ _) (by rw [List.length_take]; exact Nat.min_le_right _ _)
      refine ⟨vs, l4, Nat.lt_of_le_of_lt (Nat.le_trans lv hlen) (by decide), hlt, Hd4, vs ++ [w], ?_, d4, upd_same, ?_⟩
      · have G := g13.trans g4
        exact ⟨G.d, ⟨fun b o q => by rw [upd_ne (ne_of_none q d4)]; exact G.h.s b o q, G.h.nt⟩, ⟨fun b o q n => by rw [upd_ne (ne_of_none q hD)]; exact G.e.k b o q n, fun P t => by
          obtain ⟨ps, e1, e2⟩ := G.e.t P t
          exact ⟨ps, by rw [upd_ne (not_tab l4 ⟨ps, e1, e2⟩)]; exact e1, e2⟩, fun b q => by
          by_cases q1 : b = D
          · rw [q1]; exact hD
          · rw [upd_ne q1] at q
            exact G.e.n b q⟩, G.f⟩
      · rw [tk, List.filter_append, List.map_append, List.filter_cons, if_pos hp]
        exact dpa_app (DpAll.up hv ((g2.trans g3).trans g4).d) (.cons dw .nil)
    | false =>
      refine iteF ⟨hlt, Hd3, vs, g13, d3, l3, ?_⟩
      rw [tk, List.filter_append, List.map_append, List.filter_cons, if_neg (by rw [hp]; exact Bool.false_ne_true)]
      show DpAll X.K Hd3 vs (_ ++ [])
      rw [List.append_nil]
      exact DpAll.up hv (g2.trans g3).d
  · have e : i = ys.length := by omega
    subst e
    refine .inl ⟨wk.st _ Hd' H' g'.d g'.h (by rw [List.length_map]; exact Nat.le_refl _), ?_⟩
    rw [List.take_length] at hv
    have s : Sub Hd' (upd Hd' D (.lst vs)) := fun b o q => by rw [upd_ne (ne_of_none q d0)]; exact q
    refine z (.ref D) (upd Hd' D (.lst vs)) H' ⟨(g.d.trans g'.d).trans s, ⟨fun b o q => ?_, fun b ps q => ?_⟩, (g.e.trans g'.e), fun b q n => ?_⟩ (.lst (.inl (.inl upd_same)) (DpAll.up hv s))
    · by_cases q1 : b = D
      · rw [q1, upd_same] at q
        rw [q1, hl, q]
      · rw [upd_ne q1] at q
        exact g'.h.s b o q
    · by_cases q1 : b = D
      · rw [q1, upd_same] at q
        cases q
      · rw [upd_ne q1] at q
        exact g'.h.nt b ps q
    · by_cases q1 : b = D
      · rw [q1] at n
        exact absurd (g.e.n D hD) n
      · rw [upd_ne q1]
        exact (g.trans g').f b q n
end
end DL
namespace DL
open PySem PySem.Spec PyProof.Rows L2

/-! ### defs over data -/
/-- called with data ds it hands back d -/
def spD (K : PySem.W.Frag) (tb : List Addr) (n : Nat) (R : List PyData → PyData → Prop) : Sp := fun vs H Q _ => ∃ (Hd : Hp) (ds : List PyData) (d : PyData), vs.length = n ∧ DH Hd H ∧ (∀ P ∈ tb, GxR.TabG H P) ∧ DpAll K Hd vs ds ∧ R ds d ∧ ∀ v Hd' H', Gr Hd H Hd' H' → (∀ P ∈ tb, GxR.TabG H' P) → Dp K Hd' v d → Q v H'
def W0 : WX' := fun _ _ _ _ => False
/-- the slots at a def's entry -/
def sd (N : List Str) (ds : List PyData) : List Sl := ds.map Sl.dat ++ List.replicate (N.length - ds.length) Sl.no
section
variable {P : Program} {w : World} {K : PySem.W.Frag} {mg : Str → Option Value} {base : Heap} {x qual : Str} {params : Arguments} {body : List Stmt} {scope : Scope} {dvs : List V} {kws : List (Str × V)} {f : Addr} {fd : FuncData} {tb : List Addr}
/-- the rule for a def, the code's object known -/
theorem fok {CX : CXT} {N ps : List Str} {k : Nat} {sp : Sp} (F : FunD K x qual params body scope dvs kws f fd) (S : FnScope N ps scope) (len : ∀ vs H Q E, sp vs H Q E → vs.length = ps.length)
    (hbody : ∀ (A : Around) (outer : List PySem.Env) (s : Shared) (H : Hp) (vs : List V) (Q : VK) (E : XK), Room k (A.deeper (envOfC qual scope s.heap.objs.size f fd.code)) → sp vs H Q E →
      ∃ t, PSs (cxOf CX P w K mg base N qual scope f fd.code A outer s H E) body t ∧ t { nx := fun _ H' => Q .non H', rt := Q } (L2.start N vs) H) : FnOk P w K mg base CX (k + 1) f fd ps sp := by
  obtain ⟨oc, od, dV, kV, doc, pm, an, cdv, ct, osl, rfl, lk, hcd, _, _⟩ := F.ex
  exact fn_of lk hcd S len fun A outer s H vs Q E hr hsp => hbody A outer s H vs Q E hr hsp
theorem start_env {N : List Str} {Hd H : Hp} {vs : List V} {ds : List PyData} (hl : vs.length ≤ N.length) (D : DH Hd H) (ht : ∀ P ∈ tb, GxR.TabG H P) (h : DpAll K Hd vs ds) : Env K tb Hd H (L2.start N vs) (sd N ds) := by
  have el := dpa_len h
  refine ⟨?_, D, ht, fun i s e => ?_, fun i j xs ys a n e1 e2 e3 e4 => ?_⟩
  · unfold L2.start sd
    rw [List.length_append, List.length_append, List.length_map, List.length_map, List.length_replicate, List.length_replicate, el]
  · unfold L2.start sd at *
    by_cases hi : i < ds.length
    · rw [List.getElem?_append_left (by rw [List.length_map]; exact hi), List.getElem?_map] at e
      rw [List.getElem?_append_left (by rw [List.length_map, el]; exact hi), List.getElem?_map]
      cases q : ds[i]? with
      | none =>
        rw [q] at e
        cases e
      | some d =>
        rw [q] at e
        obtain ⟨v, e1, e2⟩ := dpa_get h q
        rw [e1]
        cases e
        exact ⟨_, rfl, e2⟩
    · rw [List.getElem?_append_right (by rw [List.length_map]; omega), List.length_map] at e
      rw [List.getElem?_append_right (by rw [List.length_map]; omega), List.length_map, el]
      obtain ⟨h1, h2⟩ := List.getElem?_eq_some_iff.mp e
      rw [List.length_replicate] at h1
      rw [List.getElem_replicate] at h2
      subst h2
      rw [List.getElem?_replicate, if_pos h1]
      exact ⟨_, rfl, trivial⟩
  · unfold sd at e1
    by_cases hi : i < ds.length
    · rw [List.getElem?_append_left (by rw [List.length_map]; exact hi), List.getElem?_map] at e1
      cases q : ds[i]? with
      | none =>
        rw [q] at e1
        cases e1
      | some d =>
        rw [q] at e1
        cases e1
    · rw [List.getElem?_append_right (by rw [List.length_map]; omega), List.length_map] at e1
      obtain ⟨h1, h2⟩ := List.getElem?_eq_some_iff.mp e1
      rw [List.getElem_replicate] at h2
      cases h2
/-- a def of the text that raises nothing and hands back -/
theorem fn_ok {N ps : List Str} {k : Nat} {R : List PyData → PyData → Prop} (F : FunD K x qual params body scope [] [] f fd) (S : FnScope N ps scope) (hlen : ps.length ≤ N.length)
    (hb : ∀ (ds : List PyData) (d : PyData), R ds d → ∀ (A : Around) (outer : List PySem.Env) (s : Shared) (H : Hp) (E : XK), Room k (A.deeper (envOfC qual scope s.heap.objs.size f fd.code)) →
      PBd (cxOf CX0 P w K mg base N qual scope f fd.code A outer s H E).nox tb W0 body (sd N ds) (.rt d)) : FnOk P w K mg base CX0 (k + 1) f fd ps (spD K tb ps.length R) := by
  refine fok F S (fun vs H Q E h => ?_) fun A outer s H vs Q E hr h => ?_
  · obtain ⟨_, _, _, h, _⟩ := h
    exact h
  · obtain ⟨Hd, ds, d, hl, D, ht, hv, hR, q⟩ := h
    obtain ⟨t, p, r⟩ := hb ds d hR A outer s H E hr
    refine ⟨t, p.nox, r Hd H Hd H _ _ ⟨start_env (by rw [hl]; exact hlen) D ht hv, Gr.refl D, fun i xs a e1 e2 => ?_⟩ fun v Hd' H' g ht' dv => q v Hd' H' g ht' dv⟩
    have E0 := start_env (N := N) (by rw [hl]; exact hlen) D ht hv
    exfalso
    unfold sd at e1
    by_cases hi : i < ds.length
    · rw [List.getElem?_append_left (by rw [List.length_map]; exact hi), List.getElem?_map] at e1
      cases q : ds[i]? with
      | none =>
        rw [q] at e1
        cases e1
      | some d =>
        rw [q] at e1
        cases e1
    · rw [List.getElem?_append_right (by rw [List.length_map]; omega), List.length_map] at e1
      obtain ⟨h1, h2⟩ := List.getElem?_eq_some_iff.mp e1
      rw [List.getElem_replicate] at h2
      cases h2
/-- the call of such a def -/
structure FnG (P : Program) (w : World) (K : PySem.W.Frag) (mg : Str → Option Value) (base : Heap) (tb : List Addr) (x : Str) (ps : List Str) (k : Nat) (R : List PyData → PyData → Prop) : Prop where
  ex : ∃ (f : Addr) (fd : FuncData), FnOk P w K mg base CX0 k f fd ps (spD K tb ps.length R) ∧ mg x = some (.ref f) ∧ PySem.W.keepIn K (.ref f) = true ∧ Binds K fd ps []
end
section
variable {X : Cx} {tb : List Addr} {W : WX'} {ds es : List Sl} {d e f : PyData} {a b c : Expr} {pos p : Pos} {x : Str} {args : List Expr} {fs : List PyData} {ps : List Str} {k : Nat} {R : List PyData → PyData → Prop}
theorem ed_call (G : FnG X.prog X.w X.K X.mg X.base tb x ps k R) (hr : Room k X.A) (ha : PAd X tb (a :: args) ds fs) (hR : R fs d) (hl : fs.length = ps.length := by rfl) (hg : Gl X x := by rfl) (hdb : (x == ("__debug__" : Str)) = false := by decide)
    (he : starEach (a :: args) X.env = (false, eval a X.env) :: starEach args X.env := by rfl) (hpl : (backTo pos (starEach args X.env)).any (·.1) = false := by rfl) : PEd X tb (.Call (.Name x p) (a :: args) [] pos) ds d := by
  obtain ⟨fa, fd, F, hm, hk, hb⟩ := G.ex
  obtain ⟨t, p1, q1⟩ := ha
  refine ⟨_, pe_call F hr hg hm hk hb .nil (pass0 (X := X)) p1 hdb he hpl, fun Hd H σ E Q z => q1 Hd H σ E _ fun vs Hd1 H1 g dv => ?_⟩
  have E1 := E.up g
  refine ⟨Hd1, fs, d, by rw [List.append_nil, dpa_len dv]; exact hl, g.h, E1.tb, by rw [List.append_nil]; exact dv, hR, fun v Hd2 H2 g2 _ dv2 => z v Hd2 H2 (g.trans g2) dv2⟩
/-! ### texts -/
theorem rm_index {A B : Str} {i : Nat} {more : List Nat} (h : Builtin.Str.occurrences A B 0 A.length 1 = i :: more) : RmD X.K (fun x xs H Q => ∃ a b i rest, x = .str a ∧ xs = [.str b] ∧ Builtin.Str.occurrences a b 0 a.length 1 = i :: rest ∧ Q (.int (i : Nat)) H) (.str A) [.str B] (.int (i : Nat)) := fun Hd H x xs D dx dxs Q q => by
  cases dx
  cases dxs with
  | cons h1 h2 =>
    cases h2
    cases h1
    exact ⟨A, B, i, more, rfl, rfl, h, q _ Hd H (Gr.refl D) (.int _)⟩
/-- s.index(t), found -/
theorem ed_index {A B : Str} {i : Nat} {more : List Nat} {apos : Pos} (hb : PEd X tb b ds (.str A)) (ha : PEd X tb a ds (.str B)) (h : Builtin.Str.occurrences A B 0 A.length 1 = i :: more) (hs : starEach [a] X.env = (false, eval a X.env) :: starEach [] X.env := by rfl)
    (hbase : attributeBase b "index" X.env (eval b X.env) = eval b X.env := by rfl)
    (hfew : ((backTo pos (starEach [a] X.env)).all (fun x => !x.1) && (backToKw pos (keywordEach [] X.env)).all (fun x => x.1.isSome)
      && decide ([a].length + ([] : List Keyword).length + (if ([] : List Keyword).isEmpty then 0 else 1) < 30)) = true := by rfl)
    (hline : (apos.endLine == pos.line) = true := by rfl) (hplain : (backTo pos (starEach [] X.env)).any (·.1) = false := by rfl) : PEd X tb (.Call (.Attribute b "index" apos) [a] [] pos) ds (.int (i : Nat)) :=
  ed_bm PySem.F.plainAttrs_str PySem.F.slot_str_index PySem.F.type_str_index mt_sindex (rm_index h) rfl hb (ad_cons ha ad_nil hs) hbase hfew hline hs hplain
theorem dpa_strs {K : PySem.W.Frag} {Hd : Hp} : ∀ {vs : List V} {ys : List Str}, DpAll K Hd vs (ys.map PyData.str) → vs = ys.map V.str
  | _, [], h => by cases h; rfl
  | _, y :: ys, h => by
    cases h with
    | cons h1 h2 =>
      cases h1
      rw [dpa_strs h2] <;> rfl
theorem rm_join {A : Str} {ys : List Str} (h : (ys.map (·.length)).sum + ys.length * A.length ≤ 16777216) : RmD X.K (fun x xs H Q => ∃ a p, ∃ ys : List Str, x = .str a ∧ xs = [.ref p] ∧ (SqL X.K H p (ys.map V.str) ∨ SqT X.K H p (ys.map V.str)) ∧
    (ys.map (·.length)).sum + ys.length * a.length ≤ 16777216 ∧ Q (.str (Txt.join a ys)) H) (.str A) [.list (ys.map PyData.str)] (.str (Txt.join A ys)) := fun Hd H x xs D dx dxs Q q => by
  cases dx
  cases dxs with
  | cons h1 h2 =>
    cases h2
    cases h1 with
    | @lst p vs _ k1 k2 =>
      have e := dpa_strs k2
      subst e
      exact ⟨A, p, ys, rfl, rfl, .inl (sl_sub D.s k1), h, q _ Hd H (Gr.refl D) (.str _)⟩
/-- s.join(list of texts) -/
theorem ed_join {A : Str} {ys : List Str} {apos : Pos} (hb : PEd X tb b ds (.str A)) (ha : PEd X tb a ds (.list (ys.map PyData.str))) (h : (ys.map (·.length)).sum + ys.length * A.length ≤ 16777216) (hs : starEach [a] X.env = (false, eval a X.env) :: starEach [] X.env := by rfl)
    (hbase : attributeBase b "join" X.env (eval b X.env) = eval b X.env := by rfl)
    (hfew : ((backTo pos (starEach [a] X.env)).all (fun x => !x.1) && (backToKw pos (keywordEach [] X.env)).all (fun x => x.1.isSome)
      && decide ([a].length + ([] : List Keyword).length + (if ([] : List Keyword).isEmpty then 0 else 1) < 30)) = true := by rfl)
    (hline : (apos.endLine == pos.line) = true := by rfl) (hplain : (backTo pos (starEach [] X.env)).any (·.1) = false := by rfl) : PEd X tb (.Call (.Attribute b "join" apos) [a] [] pos) ds (.str (Txt.join A ys)) :=
  ed_bm PySem.F.plainAttrs_str PySem.F.slot_str_join PySem.F.type_str_join mt_join (rm_join h) rfl hb (ad_cons ha ad_nil hs) hbase hfew hline hs hplain
/-! ### all over the signs of a text -/
theorem ed_allS {C P : Addr} {elt iter : Expr} {y : Str} {py gpos : Pos} {scope : Scope} {pb : Nat → Bool} {A : Str} (hP : P ∈ tb) (hr : Room k X.A) (hm : X.mg "all" = none) (TB : GxR.TabB X.base X.mg C P) (hcode : X.env.code = .ref C) (S : GxR.GenS X.env scope y) (hi : PEd X tb iter ds (.str A)) (hel : GxR.EltP X.prog X.w scope y elt pb)
    (hb : bootBuiltins "all" = some (.builtin "all") := by decide +kernel) (hs : ∀ v, genFold iter X.env v = pure v := by intro _; rfl) (hg : Gl X "all" := by rfl)
    (he : starEach [.GeneratorExp elt [⟨.Name y py, iter, [], 0⟩] scope gpos] X.env = (false, eval (.GeneratorExp elt [⟨.Name y py, iter, [], 0⟩] scope gpos) X.env) :: starEach [] X.env := by rfl) :
    PEd X tb (.Call (.Name "all" p) [.GeneratorExp elt [⟨.Name y py, iter, [], 0⟩] scope gpos] [] pos) ds (.bool (A.cps.toList.all pb)) :=
  let ⟨_, p1, q1⟩ := hi; ⟨_, GxR.pe_allS hr hg hm hb TB hcode S p1 hel hs he, fun Hd H σ E Q z => q1 Hd H σ E _ fun v Hd1 H1 g dv => by
    cases dv
    have T := (E.up g).tb P hP
    exact ⟨A, rfl, T, fun H2 ht => z _ Hd1 H2 (g.trans (Gr.tab g.h ht T)) (.bl _)⟩⟩
end
end DL
namespace DL
open PySem PySem.Spec PyProof.Rows L2

section
variable {X : Cx} {tb : List Addr} {W : WX'} {ds es : List Sl} {d e f : PyData} {a b c : Expr} {pos p : Pos}
/-! ### operators, by what stands on both sides -/
structure BinD (X : Cx) (tb : List Addr) (op : Operator) (d e f : PyData) : Prop where
  ex : ∃ r, OpR X (binaryOp op) r ∧ RvD X.K tb r d e f
theorem ed_bin {op : Operator} (ha : PEd X tb a ds d) (hb : PEd X tb b ds e) (h : BinD X tb op d e f) : PEd X tb (.BinOp a op b pos) ds f := let ⟨_, h1, h2⟩ := h.ex; ed_op h1 h2 ha hb
theorem bin_add {i j : Int} : BinD X tb .Add (.int i) (.int j) (.int (i + j)) := ⟨⟨_, op_add, rv_I0 (h := fun i j => .int (i + j)) fun _ => .int _⟩⟩
theorem bin_sub {i j : Int} : BinD X tb .Sub (.int i) (.int j) (.int (i - j)) := ⟨⟨_, op_sub, rv_I0 (h := fun i j => .int (i - j)) fun _ => .int _⟩⟩
theorem bin_mul {i j : Int} (c : (-(2 ^ 64) < i ∧ i < 2 ^ 64) ∨ (-(2 ^ 64) < j ∧ j < 2 ^ 64)) : BinD X tb .Mult (.int i) (.int j) (.int (i * j)) := ⟨⟨_, op_mul, rv_I (h := fun i j => .int (i * j)) c fun _ => .int _⟩⟩
theorem bin_fdiv {i j : Int} (c : 0 < j ∧ j < 1073741824) : BinD X tb .FloorDiv (.int i) (.int j) (.int (i / j)) := ⟨⟨_, op_fdiv, rv_I (C := CDiv) (h := fun i j => .int (i / j)) c fun _ => .int _⟩⟩
theorem bin_mod {i j : Int} (c : 0 < j) : BinD X tb .Mod (.int i) (.int j) (.int (i % j)) := ⟨⟨_, op_mod, rv_I (C := fun _ j => 0 < j) (h := fun i j => .int (i % j)) c fun _ => .int _⟩⟩
theorem bin_cat {xs ys : List PyData} (h : xs.length + ys.length ≤ 16000000) : BinD X tb .Add (.list xs) (.list ys) (.list (xs ++ ys)) := ⟨⟨_, op_catS, rv_cat h⟩⟩
theorem bin_addS {i j : Str} (h : i.length + j.length ≤ 16000000) : BinD X tb .Add (.str i) (.str j) (.str (i ++ j)) := ⟨⟨_, op_add_str, rv_addS h⟩⟩
/-! ### comparisons -/
structure CmpD (X : Cx) (tb : List Addr) (op : CmpOp) (d e : PyData) (k : Bool) : Prop where
  ex : ∃ r, OpR X (compareOp op) r ∧ RvD X.K tb r d e (.bool k)
theorem ed_cmpD {op : CmpOp} {k : Bool} (ha : PEd X tb a ds d) (hb : PEd X tb b ds e) (h : CmpD X tb op d e k) (hm : behindInMarks op b = false := by first | exact nomark _ | rfl) : PEd X tb (.Compare a [op] [b] pos) ds (.bool k) := let ⟨_, h1, h2⟩ := h.ex; ed_cmp h1 h2 ha hb hm
theorem td_cmpD {op : CmpOp} {k : Bool} (ha : PEd X tb a ds d) (hb : PEd X tb b ds e) (h : CmpD X tb op d e k) (hm : behindInMarks op b = false := by first | exact nomark _ | rfl) : PTd X tb (.Compare a [op] [b] pos) ds k := let ⟨_, h1, h2⟩ := h.ex; td_cmp h1 h2 ha hb hm
theorem cmp_lt {i j : Int} : CmpD X tb .Lt (.int i) (.int j) (decide (i < j)) := ⟨⟨_, op_lt, rv_lt⟩⟩
theorem cmp_le {i j : Int} : CmpD X tb .LtE (.int i) (.int j) (decide (i ≤ j)) := ⟨⟨_, op_le, rv_le⟩⟩
theorem cmp_gt {i j : Int} : CmpD X tb .Gt (.int i) (.int j) (decide (j < i)) := ⟨⟨_, op_gt, rv_gt⟩⟩
theorem cmp_ge {i j : Int} : CmpD X tb .GtE (.int i) (.int j) (decide (j ≤ i)) := ⟨⟨_, op_ge, rv_ge⟩⟩
theorem cmp_eqI {i j : Int} : CmpD X tb .Eq (.int i) (.int j) (decide (i = j)) := ⟨⟨_, op_eq, rv_eqI⟩⟩
theorem cmp_neI {i j : Int} : CmpD X tb .NotEq (.int i) (.int j) (!decide (i = j)) := ⟨⟨_, op_ne, rv_neI⟩⟩
theorem cmp_eqS {i j : Str} : CmpD X tb .Eq (.str i) (.str j) (decide (i = j)) := ⟨⟨_, op_eq, rv_eqS⟩⟩
theorem cmp_neS {i j : Str} : CmpD X tb .NotEq (.str i) (.str j) (!decide (i = j)) := ⟨⟨_, op_ne, rv_neS⟩⟩
theorem cmp_eqB {i j : Bool} : CmpD X tb .Eq (.bool i) (.bool j) (decide (i = j)) := ⟨⟨_, op_eq, rv_eqB⟩⟩
theorem cmp_neB {i j : Bool} : CmpD X tb .NotEq (.bool i) (.bool j) (!decide (i = j)) := ⟨⟨_, op_ne, rv_neB⟩⟩
theorem cmp_eqD {k : Nat} (hr : Room k X.A) (sd : SeqAt.shaped d = true) (se : SeqAt.shaped e = true) : CmpD X tb .Eq d e (PyData.eqv d e) := ⟨⟨_, op_eqD hr.units, rv_eqD sd se⟩⟩
theorem cmp_neD {k : Nat} (hr : Room k X.A) (sd : SeqAt.shaped d = true) (se : SeqAt.shaped e = true) : CmpD X tb .NotEq d e (!PyData.eqv d e) := ⟨⟨_, op_neD hr.units, rv_neD sd se⟩⟩
theorem cmp_inD {k : Nat} {zs : List PyData} (hr : Room k X.A) (sd : SeqAt.shaped d = true) (se : SeqAt.shaped (.list zs) = true) : CmpD X tb .In d (.list zs) (zs.any fun z => PyData.eqv z d) := ⟨⟨_, op_inD (by have := hr.un; omega), rv_inD sd se⟩⟩
def isNo : PyData → Bool
  | .none => true
  | _ => false
theorem rv_isN : RvD X.K tb (fun x y H Q => y = .non ∧ Q (.bl (decide (x = .non))) H) d .none (.bool (isNo d)) := fun Hd H x y D _ dx dy Q q => by
  cases dy
  refine ⟨rfl, q _ Hd H (Gr.refl D) ?_⟩
  have e : decide (x = V.non) = isNo d := by
    cases d <;> cases dx <;> rfl
  rw [e]
  exact .bl _
theorem cmp_isN : CmpD X tb .Is d .none (isNo d) := ⟨⟨_, op_isN, rv_isN⟩⟩
theorem rv_notN : RvD X.K tb (fun x y H Q => y = .non ∧ Q (.bl (!decide (x = .non))) H) d .none (.bool (!isNo d)) := fun Hd H x y D _ dx dy Q q => by
  cases dy
  refine ⟨rfl, q _ Hd H (Gr.refl D) ?_⟩
  have e : decide (x = V.non) = isNo d := by
    cases d <;> cases dx <;> rfl
  rw [e]
  exact .bl _
theorem cmp_notN : CmpD X tb .IsNot d .none (!isNo d) := ⟨⟨_, op_notN, rv_notN⟩⟩
/-- one sign in a text -/
theorem cmp_inS {k : Nat} {z : Str} : CmpD X tb .In (.str ⟨#[k]⟩) (.str z) (decide (k ∈ z.cps.toList)) := ⟨⟨_, op_in_sign, fun Hd H x y D _ dx dy Q q => by
  cases dx
  cases dy
  exact ⟨k, z, rfl, rfl, q _ Hd H (Gr.refl D) (.bl _)⟩⟩⟩
theorem cmp_notInS {k : Nat} {z : Str} : CmpD X tb .NotIn (.str ⟨#[k]⟩) (.str z) (!decide (k ∈ z.cps.toList)) := ⟨⟨_, op_notIn_sign, fun Hd H x y D _ dx dy Q q => by
  cases dx
  cases dy
  exact ⟨k, z, rfl, rfl, q _ Hd H (Gr.refl D) (.bl _)⟩⟩⟩
/-! ### items, slices, len -/
structure ItemD (X : Cx) (tb : List Addr) (d e f : PyData) : Prop where
  ex : ∃ r, IxR X r ∧ RvD X.K tb r d e f
theorem ed_item (ha : PEd X tb a ds d) (hb : PEd X tb b ds e) (h : ItemD X tb d e f) (hs : PlainIx b := by exact fun _ _ => rfl) : PEd X tb (.Subscript a b pos) ds f := let ⟨_, h1, h2⟩ := h.ex; ed_ix h1 h2 ha hb hs
theorem item_l {xs : List PyData} {i : Int} (h : atI xs i = some f) : ItemD X tb (.list xs) (.int i) f := ⟨⟨_, ix_list, rv_ixL h⟩⟩
theorem item_t {xs : List PyData} {i : Int} (h : atI xs i = some f) : ItemD X tb (.tuple xs) (.int i) f := ⟨⟨_, ix_tup, rv_ixT h⟩⟩
theorem item_s {z : Str} {i : Int} {k : Nat} (hl : z.length ≤ 16000000) (h : atI z.cps.toList i = some k) : ItemD X tb (.str z) (.int i) (.str ⟨#[k]⟩) := ⟨⟨_, ix_str, rv_ixS hl h⟩⟩
structure SlcD (X : Cx) (d : PyData) (l u : Option Int) (f : PyData) : Prop where
  ex : ∃ r, SlR X r ∧ RsD X.K r d l u f
theorem ed_slc {lo hi : Option Expr} {l u : Option Int} {p2 : Pos} (ha : PEd X tb a ds d) (hl : POd X tb lo ds l) (hu : POd X tb hi ds u) (h : SlcD X d l u f) : PEd X tb (.Subscript a (.Slice lo hi none p2) pos) ds f := let ⟨_, h1, h2⟩ := h.ex; ed_slice h1 h2 ha hl hu
theorem slc_l {xs : List PyData} {l u : Option Int} : SlcD X (.list xs) l u (.list (cutD xs l u)) := ⟨⟨_, sl_list, rs_list⟩⟩
theorem slc_s {z : Str} {l u : Option Int} (h : z.length ≤ 16000000) : SlcD X (.str z) l u (.str (cutS z l u)) := ⟨⟨_, sl_str, rs_str h⟩⟩
structure LenD (X : Cx) (d : PyData) (n : Nat) : Prop where
  ex : ∃ r, CallR X (.builtin "len") r ∧ RcD X.K r [d] (.int n)
theorem ed_len {n : Nat} (hm : X.mg "len" = none) (ha : PEd X tb a ds d) (h : LenD X d n) (hg : Gl X "len" := by rfl) (hs : starEach [a] X.env = [(false, eval a X.env)] := by rfl) : PEd X tb (.Call (.Name "len" p) [a] [] pos) ds (.int n) :=
  let ⟨_, h1, h2⟩ := h.ex; ed_callB h1 h2 hm PySem.boot_len (ad_cons ha ad_nil hs) hg (by decide) (by decide) hs (by rfl)
theorem len_l {xs : List PyData} {n : Nat} (h : xs.length = n) : LenD X (.list xs) n := h ▸ ⟨⟨_, call_len_seq, rc_lenL⟩⟩
theorem len_t {xs : List PyData} {n : Nat} (h : xs.length = n) : LenD X (.tuple xs) n := h ▸ ⟨⟨_, call_len_seq, rc_lenT⟩⟩
theorem len_s {z : Str} (h : z.length ≤ 16000000) : LenD X (.str z) z.length := ⟨⟨_, call_len_str, rc_lenS h⟩⟩
/-! ### chains -/
variable {op op' : CmpOp} {k l : Bool}
theorem ed_chain (ha : PEd X tb a ds d) (hb : PEd X tb b ds e) (hc : PEd X tb c ds f) (h1 : CmpD X tb op d e k) (h2 : CmpD X tb op' e f l) (hm : lastMarks [op, op'] [b, c] = false := by with_unfolding_all rfl) : PEd X tb (.Compare a [op, op'] [b, c] pos) ds (.bool (k && l)) := by
  obtain ⟨r1, o1, v1⟩ := h1.ex
  obtain ⟨r2, o2, v2⟩ := h2.ex
  obtain ⟨t1, p1, q1⟩ := ha
  obtain ⟨t2, p2, q2⟩ := hb
  obtain ⟨t3, p3, q3⟩ := hc
  refine ⟨_, pe_chain o1 o2 p1 p2 p3 hm, fun Hd H σ E Q z => q1 Hd H σ E _ fun x Hd1 H1 g1 dx => q2 Hd1 H1 σ (E.up g1) _ fun y Hd2 H2 g2 dy => v1 Hd2 H2 x y g2.h ((E.up g1).up g2).tb (Dp.up dx g2.d) dy _ fun u Hd3 H3 g3 du => ?_⟩
  cases du
  refine ⟨k, rfl, ?_⟩
  cases k with
  | true =>
    refine iteT (q3 Hd3 H3 σ (((E.up g1).up g2).up g3) _ fun w Hd4 H4 g4 dw => v2 Hd4 H4 y w g4.h ((((E.up g1).up g2).up g3).up g4).tb (Dp.up dy (g3.trans g4).d) dw Q fun v Hd5 H5 g5 dv => z v Hd5 H5 ((((g1.trans g2).trans g3).trans g4).trans g5) dv)
  | false => exact iteF (z _ Hd3 H3 ((g1.trans g2).trans g3) (.bl false))
theorem td_chain (ha : PEd X tb a ds d) (hb : PEd X tb b ds e) (hc : PEd X tb c ds f) (h1 : CmpD X tb op d e k) (h2 : CmpD X tb op' e f l) (hm : lastMarks [op, op'] [b, c] = false := by with_unfolding_all rfl) : PTd X tb (.Compare a [op, op'] [b, c] pos) ds (k && l) := by
  obtain ⟨r1, o1, v1⟩ := h1.ex
  obtain ⟨r2, o2, v2⟩ := h2.ex
  obtain ⟨t1, p1, q1⟩ := ha
  obtain ⟨t2, p2, q2⟩ := hb
  obtain ⟨t3, p3, q3⟩ := hc
  refine ⟨_, pt_chain o1 o2 p1 p2 p3 hm, fun Hd H σ E Q z => q1 Hd H σ E _ fun x Hd1 H1 g1 dx => q2 Hd1 H1 σ (E.up g1) _ fun y Hd2 H2 g2 dy => v1 Hd2 H2 x y g2.h ((E.up g1).up g2).tb (Dp.up dx g2.d) dy _ fun u Hd3 H3 g3 du => ?_⟩
  cases du
  refine ⟨k, rfl, ?_⟩
  cases k with
  | true =>
    refine iteT (q3 Hd3 H3 σ (((E.up g1).up g2).up g3) _ fun w Hd4 H4 g4 dw => v2 Hd4 H4 y w g4.h ((((E.up g1).up g2).up g3).up g4).tb (Dp.up dy (g3.trans g4).d) dw _ fun v Hd5 H5 g5 dv => ?_)
    cases dv
    exact ⟨l, rfl, z Hd5 H5 ((((g1.trans g2).trans g3).trans g4).trans g5)⟩
  | false => exact iteF ⟨false, rfl, z Hd3 H3 ((g1.trans g2).trans g3)⟩
/-! ### truth -/
def TruD : PyData → Bool → Prop
  | .none, k => k = false
  | .bool b, k => k = b
  | .int i, k => k = (i != 0)
  | .list xs, k => k = !xs.isEmpty
  | .tuple xs, k => k = !xs.isEmpty
  | _, _ => False
/-! ### a module's whole number -/
theorem ed_gInt {x : Str} {i : Int} (h : ∃ t, X.mg x = some (.int i t)) (hg : Gl X x := by rfl) (hd : (x == ("__debug__" : Str)) = false := by decide) : PEd X tb (.Name x pos) ds (.int i) := let ⟨t, hm⟩ := h; ed_glob (v := .int i) hg hm ⟨t, rfl⟩ (fun _ => .int i) hd
/-- a module's tuple, list -/
theorem ed_gRef {x : Str} {A : Addr} (hm : X.mg x = some (.ref A)) (h : ∀ Hd, Dp X.K Hd (.ref A) d) (hg : Gl X x := by rfl) (hd : (x == ("__debug__" : Str)) = false := by decide) : PEd X tb (.Name x pos) ds d := ed_glob (v := .ref A) hg hm rfl h hd
end
end DL
namespace DL
open PySem PySem.Spec PyProof.Rows L2
section
variable {X : Cx} {tb : List Addr} {W : WX'} {ds es : List Sl} {d e f : PyData} {a b c iter elt : Expr} {pos p px : Pos} {x : Str}
theorem item_lo {xs : List PyData} {i : Int} (h0 : 0 ≤ i) (h1 : i < xs.length) : ItemD X tb (.list xs) (.int i) (xs.getD i.toNat .none) := item_l (by
  have e : i = ((i.toNat : Nat) : Int) := by omega
  have hi : i.toNat < xs.length := by omega
  have q : atI xs ((i.toNat : Nat) : Int) = some xs[i.toNat] := atI_nat (List.getElem?_eq_getElem hi)
  rw [← e] at q
  rw [q, List.getD_eq_getElem?_getD, List.getElem?_eq_getElem hi] <;> rfl)
theorem item_so {z : Str} {i : Int} (hl : z.length ≤ 16000000) (h0 : 0 ≤ i) (h1 : i < z.length) : ItemD X tb (.str z) (.int i) (.str ⟨#[z.cps.toList.getD i.toNat 0]⟩) := item_s hl (by
  have e : i = ((i.toNat : Nat) : Int) := by omega
  have hl : z.cps.toList.length = z.length := by rw [Array.length_toList] <;> rfl
  have hi : i.toNat < z.cps.toList.length := by omega
  have q : atI z.cps.toList ((i.toNat : Nat) : Int) = some z.cps.toList[i.toNat] := atI_nat (List.getElem?_eq_getElem hi)
  rw [← e] at q
  rw [q, List.getD_eq_getElem?_getD, List.getElem?_eq_getElem hi] <;> rfl)
/-- items of a list of one kind -/
theorem item_lm {α : Type} {xs : List α} {g : α → PyData} {i : Int} {y : α} (h : atI xs i = some y) : ItemD X tb (.list (xs.map g)) (.int i) (g y) := item_l (by
  unfold atI at *
  rw [List.length_map]
  cases q : ixN xs.length i with
  | none =>
    rw [q] at h
    cases h
  | some j =>
    rw [q] at h
    have h' : xs[j]? = some y := h
    show (xs.map g)[j]? = some (g y)
    rw [List.getElem?_map, h'] <;> rfl)
theorem cutD_map {α β : Type} (g : α → β) (xs : List α) (l u : Option Int) : cutD (xs.map g) l u = (cutD xs l u).map g := by
  unfold cutD
  rw [List.length_map, List.map_take, List.map_drop]
theorem slc_lm {α : Type} {xs : List α} {g : α → PyData} {l u : Option Int} : SlcD X (.list (xs.map g)) l u (.list ((cutD xs l u).map g)) := by
  rw [← cutD_map]
  exact slc_l
theorem bin_catm {α : Type} {xs ys : List α} {g : α → PyData} (h : xs.length + ys.length ≤ 16000000) : BinD X tb .Add (.list (xs.map g)) (.list (ys.map g)) (.list ((xs ++ ys).map g)) := by
  rw [List.map_append]
  exact bin_cat (by rw [List.length_map, List.length_map]; exact h)
theorem len_lm {α : Type} {xs : List α} {g : α → PyData} : LenD X (.list (xs.map g)) xs.length := len_l (List.length_map _)
theorem len_sn {z : Str} {n : Nat} (e : z.length = n) (h : n ≤ 16000000) : LenD X (.str z) n := e ▸ len_s (by rw [e]; exact h)
/-- the slices that one meets -/
theorem cut_init {α : Type} (xs : List α) : cutD xs none (some (-1)) = xs.dropLast := by
  unfold cutD
  rw [HT.sIx_none, List.drop_zero, Nat.sub_zero]
  cases xs with
  | nil => rfl
  | cons x r =>
    have e : HT.sIx (x :: r).length (x :: r).length (some (-1)) = (x :: r).length - 1 := by
      unfold HT.sIx
      simp only [List.length_cons]
      rw [if_pos (by decide)]
      omega
    rw [e, List.dropLast_eq_take]
theorem cut_init2 {α : Type} (xs : List α) : cutD xs none (some (-2)) = xs.take (xs.length - 2) := by
  unfold cutD
  rw [HT.sIx_none, List.drop_zero, Nat.sub_zero]
  have e : HT.sIx xs.length xs.length (some (-2)) = xs.length - 2 := by
    unfold HT.sIx
    simp only
    rw [if_pos (by decide)]
    omega
  rw [e]
theorem cut_nat {α : Type} (xs : List α) (i j : Nat) : cutD xs (some (i : Int)) (some (j : Int)) = (xs.drop i).take (j - i) := by
  unfold cutD
  rw [HT.sIx_nat, HT.sIx_nat]
  by_cases h : i ≤ xs.length
  · rw [Nat.min_eq_left h]
    by_cases h2 : j ≤ xs.length
    · rw [Nat.min_eq_left h2]
    · rw [Nat.min_eq_right (a := j) (by omega), List.take_of_length_le (by rw [List.length_drop]; exact Nat.le_refl _), List.take_of_length_le (by rw [List.length_drop]; omega)]
  · rw [Nat.min_eq_right (a := i) (by omega), List.drop_eq_nil_of_le (Nat.le_refl _), List.drop_eq_nil_of_le (by omega), List.take_nil, List.take_nil]
theorem cut_all {α : Type} (xs : List α) (i : Nat) : cutD xs (some (i : Int)) none = xs.drop i := by
  unfold cutD
  rw [HT.sIx_nat, HT.sIx_none]
  by_cases h : i ≤ xs.length
  · rw [Nat.min_eq_left h, List.take_of_length_le (by rw [List.length_drop]; omega)]
  · rw [Nat.min_eq_right (by omega), List.drop_eq_nil_of_le (Nat.le_refl _), List.drop_eq_nil_of_le (by omega), List.take_nil]
/-- .. of texts, by their signs -/
theorem cutS_cut (z : Str) (l u : Option Int) : (cutS z l u).cps.toList = cutD z.cps.toList l u := by
  unfold cutS cutD
  rw [show z.length = z.cps.toList.length by rw [Array.length_toList] <;> rfl]
theorem str_len (z : Str) : z.length = z.cps.toList.length := by rw [Array.length_toList] <;> rfl
theorem str_app (x y : Str) : (x ++ y).cps.toList = x.cps.toList ++ y.cps.toList := by
  show (⟨x.cps ++ y.cps⟩ : Str).cps.toList = _
  rw [Array.toList_append]
/-- a comprehension without a test -/
theorem ed_lcY {α : Type} {scope : Scope} (j : Nat) (ys : List α) (enc F : α → PyData) (hc : X.calm = true) (hN : X.N.Nodup) (hi : PId X tb (.Name x px) iter ds (ys.map enc)) (hlen : ys.length ≤ 1000000) (ok : BlkOk X.N X.env.scope scope [(x, j)])
    (hg : ∀ (s : Shared) (H : Hp) (C : Addr) (cl : List (Str × Addr)) (fp : List Addr), PG (X.blk s H scope (compEnvC scope cl C X.env) fp) (.Name x px) (gName j))
    (he : ∀ y ∈ ys, ∀ (s : Shared) (H : Hp) (C : Addr) (cl : List (Str × Addr)) (fp : List Addr), PEd (X.blk s H scope (compEnvC scope cl C X.env) fp) tb elt (ds.set j (.dat (enc y))) (F y))
    (hs : ∀ x, foldedSetIterable iter X.env x = pure x := by intro _; rfl) : PEd X tb (.ListComp elt [⟨.Name x px, iter, [], 0⟩] scope pos) ds (.list (ys.map F)) := by
  have z := ed_lcX (pos := pos) j ys enc F (fun _ => true) hc hN hi hlen ok hg (fun y hy s H C cl fp => ⟨tYes, pts_nil, fun Hd H σ E Q z => z Hd H (Gr.refl E.dh)⟩) (fun y hy _ => he y hy) hs
  rwa [List.filter_eq_self.mpr fun _ _ => rfl] at z
end
end DL
namespace DL
open PySem PySem.Spec PyProof.Rows L2
/-- es says no more than ds -/
inductive Wk : List Sl → List Sl → Prop where
  | nil : Wk [] []
  | same (s : Sl) {ds es : List Sl} : Wk ds es → Wk (s :: ds) (s :: es)
  | no (s : Sl) {ds es : List Sl} : Wk ds es → Wk (s :: ds) (.no :: es)
theorem Wk.len : ∀ {ds es : List Sl}, Wk ds es → ds.length = es.length
  | _, _, .nil => rfl
  | _, _, .same _ h => congrArg (· + 1) h.len
  | _, _, .no _ h => congrArg (· + 1) h.len
theorem Wk.get : ∀ {ds es : List Sl} {i : Nat} {s : Sl}, Wk ds es → es[i]? = some s → s = .no ∨ ds[i]? = some s
  | _, _, _, _, .nil, e => by simp at e
  | _, _, 0, _, .same s h, e => .inr e
  | _, _, 0, _, .no s h, e => .inl (by simpa using e.symm)
  | _, _, i + 1, _, .same s h, e => Wk.get (i := i) h (by simpa using e)
  | _, _, i + 1, _, .no s h, e => Wk.get (i := i) h (by simpa using e)
theorem Wk.lt {ds es : List Sl} (h : Wk ds es) {i : Nat} {s : Sl} (e : es[i]? = some s) : i < ds.length := by rw [h.len]; exact (List.getElem?_eq_some_iff.mp e).1
theorem State.wk {K : PySem.W.Frag} {tb : List Addr} {Hd0 H0 Hd H : Hp} {σ : L2.St} {ds es : List Sl} (S : State K tb Hd0 H0 Hd H σ ds) (h : Wk ds es) : State K tb Hd0 H0 Hd H σ es := by
  refine ⟨⟨S.env.len.trans h.len, S.env.dh, S.env.tb, fun i s e => ?_, fun i j xs ys a n e1 e2 e3 e4 => ?_⟩, S.gr, fun i xs a e1 e2 => ?_⟩
  · rcases h.get e with z | z
    · subst z
      have hi := h.lt e
      rw [← S.env.len] at hi
      refine ⟨_, List.getElem?_eq_getElem hi, ?_⟩
      cases σ[i] <;> trivial
    · exact S.env.sl i s z
  · rcases h.get e1 with z | z1
    · cases z
    · rcases h.get e2 with z | z2
      · cases z
      · exact S.env.ap i j xs ys a n z1 z2 e3 e4
  · rcases h.get e1 with z | z
    · cases z
    · exact S.fr i xs a z e2
section
variable {X : Cx} {tb : List Addr} {W : WX'} {ds es fs : List Sl} {st : Stmt} {body : List Stmt} {o : Out}
theorem bd_wk (h : PBd X tb W body ds (.nx es)) (w : Wk es fs) : PBd X tb W body ds (.nx fs) := let ⟨t, p, q⟩ := h; ⟨t, p, fun Hd0 H0 Hd H σ D S z => q Hd0 H0 Hd H σ D S fun σ' Hd' H' S' s => z σ' Hd' H' (S'.wk w) s⟩
theorem bd_wkPre (h : PBd X tb W body fs o) (w : Wk ds fs) : PBd X tb W body ds o := let ⟨t, p, q⟩ := h; ⟨t, p, fun Hd0 H0 Hd H σ D S z => q Hd0 H0 Hd H σ D (S.wk w) z⟩
theorem sd_wkPre (h : PSd X tb W st fs o) (w : Wk ds fs) : PSd X tb W st ds o := let ⟨t, p, q⟩ := h; ⟨t, p, fun Hd0 H0 Hd H σ D S z => q Hd0 H0 Hd H σ D (S.wk w) z⟩
end
end DL
/-! LM: what the helpers that all laws share compute, in plain Lean. -/
namespace LM
open PySem L2 DL
/-! ### names -/
def letters : Str := "abcdefghijklmnopqrstuvwxyz"
def letAt (i : Int) : Nat := letters.cps.toList.getD i.toNat 0
theorem letters_len : letters.length = 26 := by decide +kernel
def NmOk (w : Str) : Prop := 1 ≤ w.length ∧ w.length ≤ 8 ∧ ∀ c ∈ w.cps.toList, 97 ≤ c ∧ c ≤ 122
theorem let_ok : ∀ n : Nat, n < 26 → 97 ≤ letters.cps.toList.getD n 0 ∧ letters.cps.toList.getD n 0 ≤ 122 := by decide +kernel
theorem letAt_ok {i : Int} (h0 : 0 ≤ i) (h1 : i < 26) : 97 ≤ letAt i ∧ letAt i ≤ 122 := let_ok i.toNat (by omega)
theorem let_occ : ∀ n : Nat, n < 26 → Builtin.Str.occurrences letters ⟨#[letters.cps.toList.getD n 0]⟩ 0 letters.length 1 = [n] := by decide +kernel
def sizeN (seed : Int) : Int := 1 + seed % 8
theorem sizeN_lo (seed : Int) : 1 ≤ sizeN seed ∧ sizeN seed ≤ 8 := by unfold sizeN; omega
/-- the sign at place j ahead of the change -/
def sgnIx (seed : Int) (j : Nat) : Int := (seed / 8 + 5 * (j : Int) + (j : Int) * (j : Int)) % 26
def oneS (c : Nat) : Str := ⟨#[c]⟩
def wordParts (seed : Int) : List Str := (List.range (sizeN seed).toNat).map fun j => oneS (letAt (sgnIx seed j))
def word0 (seed : Int) : Str := Txt.join "" (wordParts seed)
theorem sjoin_empty : ∀ ys : List Str, (Str.join "" ys).cps.toList = (ys.map fun y => y.cps.toList).flatten
  | [] => rfl
  | [y] => by
    show y.cps.toList = _
    simp
  | y :: z :: r => by
    have ih := sjoin_empty (z :: r)
    have e : Str.join "" (y :: z :: r) = (y ++ ("" : Str)) ++ Str.join "" (z :: r) := rfl
    have e2 : ("" : Str).cps.toList = [] := rfl
    rw [e, str_app, str_app, ih, e2, List.append_nil]
    rfl
theorem join_empty (ys : List Str) : (Txt.join "" ys).cps.toList = (ys.map fun y => y.cps.toList).flatten := by
  rw [show Txt.join "" ys = Str.join "" ys from PySem.StrLaws.glued_eq_join "" ys, sjoin_empty]
theorem word0_list (seed : Int) : (word0 seed).cps.toList = (List.range (sizeN seed).toNat).map fun j => letAt (sgnIx seed j) := by
  unfold word0 wordParts
  rw [join_empty, List.map_map]
  show ((List.range (sizeN seed).toNat).map fun j => [letAt (sgnIx seed j)]).flatten = _
  rw [← List.flatMap_def]
  induction (List.range (sizeN seed).toNat) with
  | nil => rfl
  | cons x r ih => rw [List.flatMap_cons, ih, List.map_cons] <;> rfl
theorem word0_len (seed : Int) : (word0 seed).length = (sizeN seed).toNat := by
  rw [str_len, word0_list, List.length_map, List.length_range]
def spotN (seed : Int) : Int := seed / 208 % sizeN seed
theorem spotN_lo (seed : Int) : 0 ≤ spotN seed ∧ spotN seed < sizeN seed := by
  have h := sizeN_lo seed
  unfold spotN
  exact ⟨Int.emod_nonneg _ (by omega), Int.emod_lt_of_pos _ (by omega)⟩
def signN (seed k : Int) : Str := oneS (letAt ((sgnIx seed (spotN seed).toNat + k * (1 + seed / 1664 % 8)) % 26))
def nameBy (seed k : Int) : Str :=
  if k = 2 ∧ seed / 13312 % 2 = 1 ∧ sizeN seed < 8 then word0 seed ++ signN seed k
  else cutS (word0 seed) none (some (spotN seed)) ++ signN seed k ++ cutS (word0 seed) (some (spotN seed + 1)) none
theorem word0_ok (seed : Int) : ∀ c ∈ (word0 seed).cps.toList, 97 ≤ c ∧ c ≤ 122 := fun c hc => by
  rw [word0_list] at hc
  obtain ⟨j, _, rfl⟩ := List.mem_map.mp hc
  exact letAt_ok (Int.emod_nonneg _ (by decide)) (Int.emod_lt_of_pos _ (by decide))
theorem signN_ok (seed k : Int) : ∀ c ∈ (signN seed k).cps.toList, 97 ≤ c ∧ c ≤ 122 := fun c hc => by
  have e : c = letAt ((sgnIx seed (spotN seed).toNat + k * (1 + seed / 1664 % 8)) % 26) := by
    simpa [signN, oneS] using hc
  rw [e]
  exact letAt_ok (Int.emod_nonneg _ (by decide)) (Int.emod_lt_of_pos _ (by decide))
theorem mem_cut {α : Type} {xs : List α} {l u : Option Int} {x : α} (h : x ∈ cutD xs l u) : x ∈ xs := List.mem_of_mem_drop (List.mem_of_mem_take h)
theorem signN_len (seed k : Int) : (signN seed k).length = 1 := rfl
theorem app_len (x y : Str) : (x ++ y).length = x.length + y.length := by rw [str_len, str_len, str_len, str_app, List.length_append]
theorem nameBy_ok (seed k : Int) : NmOk (nameBy seed k) := by
  have hs := sizeN_lo seed
  have hp := spotN_lo seed
  unfold nameBy
  split
  · rename_i h
    refine ⟨?_, ?_, fun c hc => ?_⟩
    · rw [app_len, word0_len, signN_len]; omega
    · rw [app_len, word0_len, signN_len]; omega
    · rw [str_app] at hc
      rcases List.mem_append.mp hc with hc | hc
      · exact word0_ok seed c hc
      · exact signN_ok seed k c hc
  · have l1 : (cutS (word0 seed) none (some (spotN seed))).length = (spotN seed).toNat := by
      rw [str_len, cutS_cut]
      have e : spotN seed = (((spotN seed).toNat : Nat) : Int) := by omega
      have e2 : cutD (word0 seed).cps.toList none (some (spotN seed)) = (word0 seed).cps.toList.take (spotN seed).toNat := by
        rw [e]
        unfold cutD
        rw [HT.sIx_none, HT.sIx_nat, List.drop_zero, Nat.sub_zero]
        rw [Int.toNat_natCast, ← str_len, word0_len, Nat.min_eq_left (by omega)]
      rw [e2, List.length_take, ← str_len, word0_len]
      omega
    have l2 : (cutS (word0 seed) (some (spotN seed + 1)) none).length = (sizeN seed).toNat - ((spotN seed).toNat + 1) := by
      rw [str_len, cutS_cut]
      have e : spotN seed + 1 = (((spotN seed).toNat + 1 : Nat) : Int) := by omega
      rw [e, cut_all, List.length_drop, ← str_len, word0_len]
    refine ⟨?_, ?_, fun c hc => ?_⟩
    · rw [app_len, app_len, signN_len]; omega
    · rw [app_len, app_len, signN_len, l1, l2]; omega
    · rw [str_app, str_app] at hc
      rcases List.mem_append.mp hc with hc | hc
      · rcases List.mem_append.mp hc with hc | hc
        · rw [cutS_cut] at hc
          exact word0_ok seed c (mem_cut hc)
        · exact signN_ok seed k c hc
      · rw [cutS_cut] at hc
        exact word0_ok seed c (mem_cut hc)

/-! ### statements -/
inductive Op where
  | and | or | thn
  deriving DecidableEq
inductive S where
  | nm (w : Str)
  | fls
  | bin (o : Op) (a b : S)
  deriving DecidableEq
def Op.word : Op → Str
  | .and => "and"
  | .or => "or"
  | .thn => "then"
def enc : S → PyData
  | .nm w => .tuple [.str "name", .str w]
  | .fls => .tuple [.str "false"]
  | .bin o a b => .tuple [.str o.word, enc a, enc b]
def dep : S → Nat
  | .nm _ => 1
  | .fls => 1
  | .bin _ a b => max (dep a) (dep b) + 1
/-- all names in it are names -/
def Ok : S → Prop
  | .nm w => NmOk w
  | .fls => True
  | .bin _ a b => Ok a ∧ Ok b
def opAt (i : Int) : Op := match i % 4 with
  | 0 => .and
  | 1 => .or
  | _ => .thn
def joined (way : Int) (one other : S) : S := if way / 4 % 2 = 1 then .bin (opAt way) other one else .bin (opAt way) one other
def stepP (seed : Int) (pile : List S) (cell : Int) : List S :=
  if cell % 10 = 4 then pile ++ [.fls]
  else if cell % 10 = 5 ∧ 0 < pile.length then pile ++ [pile.getD (cell / 10 % (pile.length : Int)).toNat .fls]
  else if cell % 10 = 6 ∧ 0 < pile.length then pile.dropLast ++ [.bin .thn (pile.getLastD .fls) .fls]
  else if 6 < cell % 10 ∧ 1 < pile.length then pile.take (pile.length - 2) ++ [joined (cell / 10) (pile.getD (pile.length - 2) .fls) (pile.getLastD .fls)]
  else pile ++ [.nm (nameBy seed (cell / 10 % 4))]
def pileOf (seed : Int) (cells : List Int) : List S := cells.foldl (stepP seed) []
/-- the last two under a then -/
def fT (p : List S) : List S := p.take (p.length - 2) ++ [.bin .thn (p.getD (p.length - 2) .fls) (p.getLastD .fls)]
def thens : Nat → List S → List S
  | 0, p => p
  | n + 1, p => fT (thens n p)
def stBy (cells : List Int) (seed : Int) : S :=
  let p := pileOf seed cells
  match thens (p.length - 1) p with
  | [] => .nm (nameBy seed 0)
  | s :: _ => s
theorem op_item (way : Int) : ([.str "and", .str "or", .str "then", .str "then"] : List PyData).getD (way % 4).toNat .none = .str (opAt way).word := by
  have h0 : 0 ≤ way % 4 := Int.emod_nonneg _ (by decide)
  have h1 : way % 4 < 4 := Int.emod_lt_of_pos _ (by decide)
  unfold opAt
  generalize way % 4 = i at h0 h1
  have h : i = 0 ∨ i = 1 ∨ i = 2 ∨ i = 3 := by omega
  rcases h with rfl | rfl | rfl | rfl <;> rfl
theorem stepP_len (seed : Int) (p : List S) (c : Int) : (stepP seed p c).length ≤ p.length + 1 := by
  unfold stepP
  split
  · simp
  · split
    · simp
    · split
      · rw [List.length_append, List.length_dropLast]; simp
      · split
        · rw [List.length_append, List.length_take]; simp <;> omega
        · simp
theorem fold_len (seed : Int) : ∀ (cs : List Int) (p : List S), (cs.foldl (stepP seed) p).length ≤ p.length + cs.length
  | [], p => Nat.le_refl _
  | c :: cs, p => by
    have h1 := fold_len seed cs (stepP seed p c)
    have h2 := stepP_len seed p c
    show (cs.foldl (stepP seed) (stepP seed p c)).length ≤ _
    rw [List.length_cons]
    omega
theorem pileOf_len (seed : Int) (cs : List Int) : (pileOf seed cs).length ≤ cs.length := by
  have h := fold_len seed cs []
  rw [List.length_nil, Nat.zero_add] at h
  exact h
theorem getLastD_last {p : List S} (h : 0 < p.length) : atI p (-1) = some (p.getLastD .fls) := by
  obtain ⟨q, x, rfl⟩ : ∃ q x, p = q ++ [x] := ⟨p.dropLast, p.getLast (List.ne_nil_of_length_pos h), (List.dropLast_concat_getLast _).symm⟩
  rw [atI_last]
  simp
theorem atI_two {p : List S} (h : 1 < p.length) : atI p (-2) = some (p.getD (p.length - 2) .fls) := by
  unfold atI ixN
  rw [if_neg (by decide), if_pos (by omega)]
  have e : (-2 + (p.length : Int)).toNat = p.length - 2 := by omega
  show p[(-2 + (p.length : Int)).toNat]? = _
  rw [e, List.getD_eq_getElem?_getD, List.getElem?_eq_getElem (by omega)] <;> rfl
theorem atI_pos {α : Type} {p : List α} {i : Int} (d : α) (h0 : 0 ≤ i) (h1 : i < p.length) : atI p i = some (p.getD i.toNat d) := by
  have e : i = ((i.toNat : Nat) : Int) := by omega
  have hi : i.toNat < p.length := by omega
  have q : atI p ((i.toNat : Nat) : Int) = some p[i.toNat] := atI_nat (List.getElem?_eq_getElem hi)
  rw [← e] at q
  rw [q, List.getD_eq_getElem?_getD, List.getElem?_eq_getElem hi] <;> rfl
theorem fT_len {p : List S} (h : 1 < p.length) : (fT p).length = p.length - 1 := by
  unfold fT
  rw [List.length_append, List.length_take]
  simp <;> omega
theorem thens_len (p : List S) : ∀ n : Nat, n < p.length → (thens n p).length = p.length - n
  | 0, _ => rfl
  | n + 1, h => by
    have ih := thens_len p n (by omega)
    show (fT (thens n p)).length = _
    rw [fT_len (by omega), ih]
    omega
/-! ### depth: at most one a cell -/
def deps : List S → Nat
  | [] => 0
  | s :: r => max (dep s) (deps r)
theorem dep_pos : ∀ s : S, 1 ≤ dep s
  | .nm _ => Nat.le_refl _
  | .fls => Nat.le_refl _
  | .bin _ _ _ => Nat.le_add_left _ _
theorem deps_le {p : List S} {n : Nat} : deps p ≤ n ↔ ∀ s ∈ p, dep s ≤ n := by
  induction p with
  | nil => simp [deps]
  | cons x r ih => simp only [deps, List.mem_cons, forall_eq_or_imp, Nat.max_le, ih]
theorem mem_getD {p : List S} {i : Nat} (h : i < p.length) : p.getD i .fls ∈ p := by
  rw [List.getD_eq_getElem?_getD, List.getElem?_eq_getElem h]
  exact List.getElem_mem h
theorem mem_last {p : List S} (h : 0 < p.length) : p.getLastD .fls ∈ p := by
  obtain ⟨q, x, rfl⟩ : ∃ q x, p = q ++ [x] := ⟨p.dropLast, p.getLast (List.ne_nil_of_length_pos h), (List.dropLast_concat_getLast _).symm⟩
  simp
/-- a pile whose length and depth together stay below n + 1, all of it well named -/
def Pl (n : Nat) (p : List S) : Prop := p.length + deps p ≤ n + 1 ∧ ∀ s ∈ p, Ok s
theorem joined_dep (way : Int) (a b : S) : dep (joined way a b) = max (dep a) (dep b) + 1 := by
  unfold joined
  split
  · show max (dep b) (dep a) + 1 = _
    rw [Nat.max_comm]
  · rfl
theorem joined_ok {way : Int} {a b : S} (ha : Ok a) (hb : Ok b) : Ok (joined way a b) := by
  unfold joined
  split
  · exact ⟨hb, ha⟩
  · exact ⟨ha, hb⟩
theorem stepP_pl (seed : Int) {n : Nat} {p : List S} (c : Int) (h : Pl n p) : Pl (n + 1) (stepP seed p c) := by
  obtain ⟨hl, ho⟩ := h
  have hd : ∀ s ∈ p, dep s ≤ deps p := deps_le.mp (Nat.le_refl _)
  have e0 : p = [] → deps p = 0 := fun e => by rw [e] <;> rfl
  have pos : 0 < p.length → 1 ≤ deps p := fun hp => Nat.le_trans (dep_pos _) (hd _ (mem_last hp))
  have push : ∀ s : S, dep s ≤ max 1 (deps p) → Ok s → Pl (n + 1) (p ++ [s]) := fun s h1 h2 => by
    refine ⟨?_, fun t ht => ?_⟩
    · have : deps (p ++ [s]) ≤ max 1 (deps p) := deps_le.mpr fun t ht => by
        rcases List.mem_append.mp ht with ht | ht
        · exact Nat.le_trans (hd t ht) (Nat.le_max_right _ _)
        · rw [List.mem_singleton.mp ht]; exact h1
      rw [List.length_append, List.length_singleton]
      by_cases z : 0 < p.length
      · have := pos z
        omega
      · have := e0 (List.eq_nil_of_length_eq_zero (by omega))
        omega
    · rcases List.mem_append.mp ht with ht | ht
      · exact ho t ht
      · rw [List.mem_singleton.mp ht]; exact h2
  unfold stepP
  split
  · exact push _ (Nat.le_max_left _ _) trivial
  · split
    · rename_i z
      have r0 : 0 ≤ c / 10 % (p.length : Int) := Int.emod_nonneg _ (by omega)
      have r1 : c / 10 % (p.length : Int) < p.length := Int.emod_lt_of_pos _ (by omega)
      have m := mem_getD (p := p) (i := (c / 10 % (p.length : Int)).toNat) (by omega)
      exact push _ (Nat.le_trans (hd _ m) (Nat.le_max_right _ _)) (ho _ m)
    · split
      · rename_i z
        have hp := pos z.2
        have m := mem_last z.2
        refine ⟨?_, fun t ht => ?_⟩
        · have : deps (p.dropLast ++ [.bin .thn (p.getLastD .fls) .fls]) ≤ deps p + 1 := deps_le.mpr fun t ht => by
            rcases List.mem_append.mp ht with ht | ht
            · exact Nat.le_succ_of_le (hd t (List.dropLast_subset _ ht))
            · rw [List.mem_singleton.mp ht]
              show max (dep _) 1 + 1 ≤ _
              have := hd _ m
              omega
          rw [List.length_append, List.length_dropLast, List.length_singleton]
          omega
        · rcases List.mem_append.mp ht with ht | ht
          · exact ho t (List.dropLast_subset _ ht)
          · rw [List.mem_singleton.mp ht]
            exact ⟨ho _ m, trivial⟩
      · split
        · rename_i z
          have m1 := mem_last (p := p) (by omega)
          have m2 := mem_getD (p := p) (i := p.length - 2) (by omega)
          refine ⟨?_, fun t ht => ?_⟩
          · have : deps (p.take (p.length - 2) ++ [joined (c / 10) (p.getD (p.length - 2) .fls) (p.getLastD .fls)]) ≤ deps p + 1 := deps_le.mpr fun t ht => by
              rcases List.mem_append.mp ht with ht | ht
              · exact Nat.le_succ_of_le (hd t (List.mem_of_mem_take ht))
              · rw [List.mem_singleton.mp ht, joined_dep]
                have q1 := hd _ m1
                have q2 := hd _ m2
                omega
            rw [List.length_append, List.length_take, List.length_singleton]
            omega
          · rcases List.mem_append.mp ht with ht | ht
            · exact ho t (List.mem_of_mem_take ht)
            · rw [List.mem_singleton.mp ht]
              exact joined_ok (ho _ m2) (ho _ m1)
        · exact push _ (Nat.le_max_left _ _) (nameBy_ok _ _)
theorem fold_pl (seed : Int) : ∀ (cs : List Int) (n : Nat) (p : List S), Pl n p → Pl (n + cs.length) (cs.foldl (stepP seed) p)
  | [], n, p, h => h
  | c :: cs, n, p, h => by
    have q := fold_pl seed cs (n + 1) (stepP seed p c) (stepP_pl seed c h)
    have e : n + (c :: cs).length = n + 1 + cs.length := by
      rw [List.length_cons]; omega
    rw [e]
    exact q
theorem pileOf_pl (seed : Int) (cs : List Int) : Pl cs.length (pileOf seed cs) := by
  have h := fold_pl seed cs 0 [] ⟨Nat.zero_le _, fun _ h => absurd h (by simp)⟩
  rw [Nat.zero_add] at h
  exact h
theorem fT_pl {n : Nat} {p : List S} (hl : 1 < p.length) (h : Pl n p) : Pl n (fT p) := by
  obtain ⟨h1, ho⟩ := h
  have hd : ∀ s ∈ p, dep s ≤ deps p := deps_le.mp (Nat.le_refl _)
  have m1 := mem_last (p := p) (by omega)
  have m2 := mem_getD (p := p) (i := p.length - 2) (by omega)
  refine ⟨?_, fun t ht => ?_⟩
  · have : deps (fT p) ≤ deps p + 1 := deps_le.mpr fun t ht => by
      rcases List.mem_append.mp ht with ht | ht
      · exact Nat.le_succ_of_le (hd t (List.mem_of_mem_take ht))
      · rw [List.mem_singleton.mp ht]
        show max _ _ + 1 ≤ _
        have q1 := hd _ m1
        have q2 := hd _ m2
        omega
    rw [fT_len hl]
    omega
  · rcases List.mem_append.mp ht with ht | ht
    · exact ho t (List.mem_of_mem_take ht)
    · rw [List.mem_singleton.mp ht]
      exact ⟨ho _ m2, ho _ m1⟩
theorem thens_pl {n : Nat} {p : List S} (h : Pl n p) : ∀ k : Nat, k < p.length → Pl n (thens k p)
  | 0, _ => h
  | k + 1, hk => fT_pl (by rw [thens_len p k (by omega)]; omega) (thens_pl h k (by omega))
theorem stBy_ok (cs : List Int) (seed : Int) : Ok (stBy cs seed) ∧ dep (stBy cs seed) ≤ max 1 cs.length := by
  unfold stBy
  by_cases hp : 0 < (pileOf seed cs).length
  · have q := thens_pl (pileOf_pl seed cs) ((pileOf seed cs).length - 1) (by omega)
    have l := thens_len (pileOf seed cs) ((pileOf seed cs).length - 1) (by omega)
    simp only
    split
    · rename_i e
      rw [e] at l
      simp at l
      omega
    · rename_i s r e
      rw [e] at q
      obtain ⟨q1, q2⟩ := q
      refine ⟨q2 s List.mem_cons_self, ?_⟩
      have : dep s ≤ deps (s :: r) := Nat.le_max_left _ _
      rw [List.length_cons] at q1
      omega
  · have e : pileOf seed cs = [] := List.eq_nil_of_length_eq_zero (by omega)
    rw [e]
    exact ⟨nameBy_ok _ _, Nat.le_max_left _ _⟩
/-! ### what == takes -/
theorem nm_strOk {w : Str} (h : NmOk w) : PyData.strOk w = true := by
  unfold PyData.strOk
  rw [← Array.all_toList, List.all_eq_true]
  intro c hc
  have := (h.2.2 c hc).2
  exact decide_eq_true (by omega)
theorem op_strOk (o : Op) : PyData.strOk o.word = true := by cases o <;> decide +kernel
theorem enc_lay : ∀ s : S, Ok s → (enc s).canLay0 = true
  | .nm w, h => by
    have z := nm_strOk h
    show PyData.canLay0 (.tuple [.str "name", .str w]) = true
    simp only [PyData.canLay0, PyData.canLayAll0, z, Bool.and_true]
    decide +kernel
  | .fls, _ => by decide +kernel
  | .bin o a b, h => by
    have z := op_strOk o
    show PyData.canLay0 (.tuple [.str o.word, enc a, enc b]) = true
    simp only [PyData.canLay0, PyData.canLayAll0, z, enc_lay a h.1, enc_lay b h.2, Bool.and_true]
theorem enc_depth : ∀ s : S, (enc s).depth ≤ dep s
  | .nm _ => Nat.le_refl _
  | .fls => Nat.le_refl _
  | .bin o a b => by
    have ha := enc_depth a
    have hb := enc_depth b
    show PyData.depth (.tuple [.str o.word, enc a, enc b]) ≤ max (dep a) (dep b) + 1
    simp only [PyData.depth, PyData.depthAll]
    omega
theorem enc_shaped {s : S} (h : Ok s) (hd : dep s ≤ 64) : SeqAt.shaped (enc s) = true := by
  unfold SeqAt.shaped
  rw [enc_lay s h, decide_eq_true (Nat.le_trans (enc_depth s) hd)] <;> rfl
theorem encs_lay : ∀ p : List S, (∀ s ∈ p, Ok s) → PyData.canLayAll0 (p.map enc) = true
  | [], _ => rfl
  | s :: r, h => by
    show (PyData.canLay0 (enc s) && PyData.canLayAll0 (r.map enc)) = true
    rw [enc_lay s (h s List.mem_cons_self), encs_lay r fun t ht => h t (List.mem_cons_of_mem _ ht)] <;> rfl
theorem encs_depth : ∀ p : List S, PyData.depthAll (p.map enc) ≤ deps p
  | [] => Nat.le_refl _
  | s :: r => by
    have h1 := enc_depth s
    have h2 := encs_depth r
    show max (PyData.depth (enc s)) (PyData.depthAll (r.map enc)) ≤ max (dep s) (deps r)
    omega
theorem encs_shaped {p : List S} (h : ∀ s ∈ p, Ok s) (hd : deps p ≤ 63) : SeqAt.shaped (.list (p.map enc)) = true := by
  unfold SeqAt.shaped
  have e1 : PyData.canLay0 (.list (p.map enc)) = true := encs_lay p h
  have e2 : PyData.depth (.list (p.map enc)) ≤ 64 := by
    have := encs_depth p
    show PyData.depthAll (p.map enc) + 1 ≤ 64
    omega
  rw [e1, decide_eq_true e2] <;> rfl
theorem eqv_nil (xs : List PyData) : PyData.eqv (.list xs) (.list []) = xs.isEmpty := by
  cases xs <;> rfl
end LM
namespace DL
open PySem PySem.Spec PyProof.Rows L2

section
variable {X : Cx} {tb : List Addr} {W : WX'} {ds es : List Sl} {d e f : PyData} {a b : Expr} {pos pos' pos1 p px py : Pos} {x y : Str}
theorem ItemD.is {g : PyData} (h : ItemD X tb d e f) (q : f = g) : ItemD X tb d e g := q ▸ h
theorem CmpD.is {op : CmpOp} {k l : Bool} (h : CmpD X tb op d e k) (q : k = l) : CmpD X tb op d e l := q ▸ h
/-! ### a, b = a pair -/
theorem sd_unpack (i j : Nat) {kk : Nat} {d1 d2 : PyData} (h : PEd X tb a ds (.tuple [d1, d2])) (hc : X.calm = true) (hN : X.N.Nodup) (hi : X.N[i]? = some x := by rfl) (hj : X.N[j]? = some y := by rfl) (hx : locB X.env.scope x = true := by rfl) (hy : locB X.env.scope y = true := by rfl)
    (hfx : X.fn x = true ∨ X.env.scope.names.lookup x = some .local := by first | exact .inl rfl | exact .inr rfl) (hfy : X.fn y = true ∨ X.env.scope.names.lookup y = some .local := by first | exact .inl rfl | exact .inr rfl)
    (h1 : (assignEach [.Name x px, .Name y py] X.env).length = 2 := by rfl) (h2 : (assignEach [.Name x px, .Name y py] X.env).findIdx? (·.1) = none := by rfl)
    (h3 : (assignEach [.Name x px, .Name y py] X.env).map (·.2) = assign (.Name x px) X.env :: (assignEach [.Name y py] X.env).map (·.2) := by rfl) (h4 : (assignEach [.Name y py] X.env).map (·.2) = assign (.Name y py) X.env :: (assignEach [] X.env).map (·.2) := by rfl)
    (hs : swapsWithSole [.Tuple [.Name x px, .Name y py] kk pos1] a pos.line X.env = pure false := by rfl) (hw : swappedStores [.Tuple [.Name x px, .Name y py] kk pos1] a X.env = pure none := by rfl)
    (h5 : (assignEach [.Tuple [.Name x px, .Name y py] kk pos1] X.env).map (·.2) = [assign (.Tuple [.Name x px, .Name y py] kk pos1) X.env] := by rfl) :
    PSd X tb W (.Assign [.Tuple [.Name x px, .Name y py] kk pos1] a pos) ds (.nx ((ds.set i (.dat d1)).set j (.dat d2))) :=
  let ⟨_, p1, q1⟩ := h; ⟨_, ps_asg p1 (pg_tup hc (pgs_cons (pg_name hN hi (locB_ok hx) hfx) (pgs_cons (pg_name hN hj (locB_ok hy) hfy) pgs_nil h4) h3) h1 h2) hs hw h5, fun Hd0 H0 Hd H σ D S z => q1 Hd H σ S.env _ fun v Hd1 H1 g dv => by
    cases dv with
    | @tup A vs _ k1 k2 =>
      cases k2 with
      | cons m1 m2 =>
        cases m2 with
        | cons m3 m4 =>
          cases m4
          have S1 := (S.up g).set (i := i) (s := .dat d1) m1 fun _ z => nomatch z
          have S2 := S1.set (i := j) (s := .dat d2) m3 fun _ z => nomatch z
          exact ⟨A, _, rfl, st_sub g.h.s k1, rfl, _, _, rfl, _, _, rfl, rfl, z _ Hd1 H1 S2 g.d⟩⟩
/-! ### x += e, whole numbers -/
theorem sd_augAdd (i : Nat) {m n : Int} (h : PEd X tb a ds (.int n)) (hd : ds[i]? = some (.dat (.int m))) (hN : X.N.Nodup) (hi : X.N[i]? = some x := by rfl) (hx : locB X.env.scope x = true := by rfl) (hf : X.fn x = true ∨ X.env.scope.names.lookup x = some .local := by first | exact .inl rfl | exact .inr rfl) :
    PSd X tb W (.AugAssign (.Name x pos') .Add a pos) ds (.nx (ds.set i (.dat (.int (m + n))))) :=
  let ⟨_, p1, q1⟩ := h; ⟨_, ps_aug hN hi (locB_ok hx) p1 ip_add hf, fun Hd0 H0 Hd H σ D S z => by
    obtain ⟨v, e1, e2⟩ := S.env.dat hd
    cases e2
    refine ⟨.int m, e1, q1 Hd H σ S.env _ fun v Hd1 H1 g dv => ?_⟩
    cases dv
    exact ⟨m, n, rfl, rfl, z _ Hd1 H1 ((S.up g).set (i := i) (s := .dat (.int (m + n))) (.int _) fun _ z => nomatch z) g.d⟩⟩
/-! ### f-strings -/
theorem ed_fmt {z : Str} (h : PEd X tb a ds (.str z)) (hl : z.length ≤ 16000000) : PEd X tb (.FormattedValue a (-1) none pos) ds (.str z) := let ⟨_, p1, q1⟩ := h; ⟨_, pe_fmt p1, fun Hd H σ E Q k => q1 Hd H σ E _ fun v Hd1 H1 g dv => by
  cases dv
  exact .inl ⟨z, rfl, Nat.le_trans hl (by decide), k _ Hd1 H1 g (.str z)⟩⟩
theorem ed_fmtI {i : Int} (h : PEd X tb a ds (.int i)) (hl : i.natAbs.log2 < 1920) : PEd X tb (.FormattedValue a (-1) none pos) ds (.str (toString i)) := let ⟨_, p1, q1⟩ := h; ⟨_, pe_fmt p1, fun Hd H σ E Q k => q1 Hd H σ E _ fun v Hd1 H1 g dv => by
  cases dv
  exact .inr ⟨i, rfl, hl, k _ Hd1 H1 g (.str _)⟩⟩
inductive PJd (X : Cx) (tb : List Addr) (ds : List Sl) : List Expr → Str → Str → Prop where
  | nil (acc : Str) : PJd X tb ds [] acc acc
  | cons {a : Expr} {z acc out : Str} {r : List Expr} (h : PEd X tb a ds (.str z)) (hl : (acc ++ z).length ≤ 16000000) (k : PJd X tb ds r (acc ++ z) out) : PJd X tb ds (a :: r) acc out
theorem pjd_ts : ∀ {es : List Expr} {acc out : Str}, PJd X tb ds es acc out → ∃ ts, PJ X es ts ∧ ∀ (Hd H : Hp) (σ : L2.St), Env X.K tb Hd H σ ds → ∀ Q : Str → Hp → Prop, (∀ Hd' H', Gr Hd H Hd' H' → Q out H') → tJs ts acc σ H Q
  | _, _, _, .nil acc => ⟨[], .nil, fun Hd H σ E Q q => q Hd H (Gr.refl E.dh)⟩
  | _, _, _, .cons h hl k => by
    obtain ⟨t, p1, q1⟩ := h
    obtain ⟨ts, p2, q2⟩ := pjd_ts k
    refine ⟨t :: ts, .cons p1 p2, fun Hd H σ E Q q => q1 Hd H σ E _ fun v Hd1 H1 g dv => ?_⟩
    cases dv
    exact ⟨_, rfl, Nat.le_trans hl (by decide), q2 Hd1 H1 σ (E.up g) Q fun Hd2 H2 g2 => q Hd2 H2 (g.trans g2)⟩
theorem ed_fs {v1 v2 : Expr} {r : List Expr} {out : Str} (h : PJd X tb ds (v1 :: v2 :: r) Str.empty out) : PEd X tb (.JoinedStr (v1 :: v2 :: r) pos) ds (.str out) := by
  obtain ⟨ts, p1, q1⟩ := pjd_ts h
  exact ⟨_, pe_joined p1, fun Hd H σ E Q q => q1 Hd H σ E _ fun Hd1 H1 g => q _ Hd1 H1 g (.str out)⟩
/-! ### a dict of the module with text keys -/
theorem ix_kd {A : Addr} {es : Array DictEntry} {n : Nat} (D : KDict X.K X.w A es n) : IxR X (fun x y H Q => ∃ (z : Str) (u0 : Value) (v0 : V), x = .ref A ∧ y = .str z ∧ PySem.W.nsIn X.K A z = some (some u0) ∧ RelV v0 u0 ∧ Q v0 H) := by
  intro value slice pins s σ H x y v u Q I rx ry h hs
  have ex : v = .ref A := by
    obtain ⟨z, u0, v0, e1, _⟩ := h
    subst e1
    exact rx
  subst ex
  exact tail_any (kd_type D I) PySem.F.slot_dict_getitem.lookup (op_item_kd D pins s σ H x y _ u Q I rx ry h) hs
/-- SIGNS[word] -/
theorem ed_kdGet {A : Addr} {z : Str} {u : Value} {v : V} {xs : Array DictEntry} {n : Nat} (D : KDict X.K X.w A xs n) (hm : X.mg x = some (.ref A)) (hv : PySem.W.nsIn X.K A z = some (some u)) (r : RelV v u) (hd : ∀ Hd, Dp X.K Hd v d) (ha : PEd X tb a ds (.str z)) (hg : Gl X x := by rfl) (hdb : (x == ("__debug__" : Str)) = false := by decide) (hs : PlainIx a := by exact fun _ _ => rfl) :
    PEd X tb (.Subscript (.Name x px) a pos) ds d :=
  let ⟨_, p1, q1⟩ := ha; ⟨_, pe_ix (ix_kd D) (pe_glob (v := .ref A) hg hm rfl hdb) p1 hs, fun Hd H σ E Q k => q1 Hd H σ E _ fun w Hd1 H1 g dw => by
    cases dw
    exact ⟨z, u, v, rfl, rfl, hv, r, k v Hd1 H1 g (hd Hd1)⟩⟩
/-- TABLE.get(key): there or not -/
theorem ed_kdGetM {A : Addr} {z : Str} {u : Option Value} {v : V} {xs : Array DictEntry} {n : Nat} {apos : Pos} (D : KDict X.K X.w A xs n) (hm : X.mg x = some (.ref A)) (hv : PySem.W.nsIn X.K A z = some u) (r : RelV v (u.getD .none)) (hd : ∀ Hd, Dp X.K Hd v d) (ha : PEd X tb a ds (.str z)) (hg : Gl X x := by rfl) (hdb : (x == ("__debug__" : Str)) = false := by decide)
    (hbase : attributeBase (.Name x px) "get" X.env (eval (.Name x px) X.env) = eval (.Name x px) X.env := by rfl)
    (hfew : ((backTo pos (starEach [a] X.env)).all (fun x => !x.1) && (backToKw pos (keywordEach [] X.env)).all (fun x => x.1.isSome)
      && decide (([a] : List Expr).length + ([] : List Keyword).length + (if ([] : List Keyword).isEmpty then 0 else 1) < 30)) = true := by rfl)
    (hline : (apos.endLine == pos.line) = true := by rfl) (htrees : backTo pos (starEach [a] X.env) = [(false, eval a X.env)] := by rfl) :
    PEd X tb (.Call (.Attribute (.Name x px) "get" apos) [a] [] pos) ds d := by
  obtain ⟨t, p1, q1⟩ := ha
  refine ⟨fun σ H Q => t σ H fun w H1 => w = .str z ∧ Q v H1, ⟨fun pins s σ H Q I h => ?_⟩, fun Hd H σ E Q k => q1 Hd H σ E _ fun w Hd1 H1 g dw => by
    cases dw
    exact ⟨rfl, k v Hd1 H1 g (hd Hd1)⟩⟩
  refine wpAny_Call_method hbase hfew hline PySem.F.plainAttrs_dict PySem.F.slot_dict_get PySem.F.type_dict_get (ld_glob I hg hm ?_ hdb)
  refine ⟨kd_type D I, fun b q => ?_, ?_⟩
  · cases q
    exact ⟨_, I.kIn _ _ D.at_, rfl⟩
  rw [htrees]
  refine Calls.callWith_builtin rfl (Calls.evalArgs_plain (Calls.spliced_cons (thn (p1.run pins s σ H _ I h) fun iv s2 ⟨y, H2, I2, ry, ey, q2⟩ => Calls.spliced_nil ?_)))
  subst ey
  obtain ⟨tk, rfl⟩ := ry
  refine call_meetsIn PySem.F.slot_dict_get (kd_type D I2) PySem.F.entry_dict_get (PySem.F.args_dict_get_2 _ _) (meets_dict_get (PySem.strKind X.prog X.w) A (PySem.strKind_is X.prog X.w z tk) D.low) ⟨_, PySem.W.mapOf_K (prog := X.prog) I2.kIn D.at_ D.lit, ?_⟩
  refine ⟨v, H2, I2.tok _, ?_, q2⟩
  rw [PySem.W.find_K D.at_ hv]
  exact r
end
end DL
namespace DL
open PySem PySem.Spec PyProof.Rows L2

/-! ### what raises -/
def PXd (X : Cx) (tb : List Addr) (W : WX') (e : Expr) (ds : List Sl) (c : Value) : Prop := ∃ t, PE X e t ∧ ∀ (Hd H : Hp) (σ : L2.St), Env X.K tb Hd H σ ds → ∀ Q : VK, (∀ Hd' H', Gr Hd H Hd' H' → (∀ P ∈ tb, GxR.TabG H' P) → W c none σ H') → t σ H Q
section
variable {X : Cx} {tb : List Addr} {W : WX'} {ds es : List Sl} {d e f : PyData} {a b : Expr} {pos pos' pos1 p px py : Pos} {x y : Str} {c : Value} {tg : Expr} {args : List Expr} {fs : List PyData}
theorem pg_nev : PG X tg (fun _ _ _ _ => False) := ⟨fun _ _ _ _ _ _ _ _ _ h => h.elim⟩
/-- the exception class at C of the program's own, over ValueError -/
structure ExC (X : Cx) (x : Str) (C : Addr) : Prop where
  q : PySem.W.excIn X.K C [.type "ValueError", .type "Exception", .type "BaseException", .type "object"] "ValueError.__new__" = true
  g : X.mg x = some (.ref C)
  k : PySem.W.keepIn X.K (.ref C) = true
  s : PySem.W.subIn X.K (.ref C) (.type "BaseException") = some true
  t : PySem.W.typeIn X.K (.ref C) = some (.type "type")
theorem sd_raise {C : Addr} (T : ExC X x C) (hc : X.calm = true) (tk : Takes X W) (h : PEd X tb a ds d) (hg : Gl X x := by rfl) (hs : starEach [a] X.env = (false, eval a X.env) :: starEach [] X.env := by rfl) (hdb : (x == ("__debug__" : Str)) = false := by decide) :
    PSd X tb W (.Raise (some (.Call (.Name x p) [a] [] pos')) none pos) ds (.ex (.ref C)) :=
  let ⟨_, p1, q1⟩ := h; ⟨_, ps_raise hc tk (SkE.pmk_own1 PySem.F.excBase_ValueError T.q T.g T.k (raises_own T.s T.t) hg p1 hs hdb), fun Hd0 H0 Hd H σ D S z => q1 Hd H σ S.env _ fun v Hd' H' g dv => z σ Hd' H' (S.gr.trans g) (S.env.up g).tb⟩
theorem sd_retX (h : PXd X tb W a ds c) : PSd X tb W (.Return (some a) pos) ds (.ex c) := let ⟨_, p1, q1⟩ := h; ⟨_, ps_ret p1, fun Hd0 H0 Hd H σ D S z => q1 Hd H σ S.env _ fun Hd' H' g t => z σ Hd' H' (S.gr.trans g) t⟩
theorem sd_asgX (h : PXd X tb W a ds c) (hs : swapsWithSole [tg] a pos.line X.env = pure false := by rfl) (hw : swappedStores [tg] a X.env = pure none := by rfl) (h1 : (assignEach [tg] X.env).map (·.2) = [assign tg X.env] := by rfl) : PSd X tb W (.Assign [tg] a pos) ds (.ex c) :=
  let ⟨_, p1, q1⟩ := h; ⟨_, ps_asg p1 pg_nev hs hw h1, fun Hd0 H0 Hd H σ D S z => q1 Hd H σ S.env _ fun Hd' H' g t => z σ Hd' H' (S.gr.trans g) t⟩
/-- the first of a display's, of a call's arguments raises -/
theorem xd_tup1 {k : Nat} (h : PXd X tb W a ds c) (hs : starEach [a] X.env = (false, eval a X.env) :: starEach [] X.env := by rfl) : PXd X tb W (.Tuple [a] k pos) ds c :=
  let ⟨_, p1, q1⟩ := h; ⟨_, pe_tup (pa_cons p1 pa_nil hs), fun Hd H σ E Q z => q1 Hd H σ E _ z⟩
end
/-! ### defs that may raise -/
/-- called with data ds it hands back d (R), or raises c (Rx) -/
def spX (K : PySem.W.Frag) (tb : List Addr) (n : Nat) (R : List PyData → PyData → Prop) (Rx : List PyData → Value → Prop) : Sp := fun vs H Q E => ∃ (Hd : Hp) (ds : List PyData), vs.length = n ∧ DH Hd H ∧ (∀ P ∈ tb, GxR.TabG H P) ∧ DpAll K Hd vs ds ∧
  ((∃ d, R ds d ∧ ∀ v Hd' H', Gr Hd H Hd' H' → (∀ P ∈ tb, GxR.TabG H' P) → Dp K Hd' v d → Q v H') ∨ ∃ c, Rx ds c ∧ ∀ Hd' H', Gr Hd H Hd' H' → (∀ P ∈ tb, GxR.TabG H' P) → E c none H')
section
variable {P : Program} {w : World} {K : PySem.W.Frag} {mg : Str → Option Value} {base : Heap} {x qual : Str} {params : Arguments} {body : List Stmt} {scope : Scope} {f : Addr} {fd : FuncData} {tb : List Addr}
theorem sd_noOwn {N : List Str} {ds : List PyData} {i : Nat} {xs : List PyData} (e1 : (sd N ds)[i]? = some (.own xs)) : False := by
  unfold sd at e1
  by_cases hi : i < ds.length
  · rw [List.getElem?_append_left (by rw [List.length_map]; exact hi), List.getElem?_map] at e1
    cases q : ds[i]? with
    | none =>
      rw [q] at e1
      cases e1
    | some d =>
      rw [q] at e1
      cases e1
  · rw [List.getElem?_append_right (by rw [List.length_map]; omega), List.length_map] at e1
    obtain ⟨h1, h2⟩ := List.getElem?_eq_some_iff.mp e1
    rw [List.getElem_replicate] at h2
    cases h2
theorem fnx_ok {N ps : List Str} {k : Nat} {R : List PyData → PyData → Prop} {Rx : List PyData → Value → Prop} (F : FunD K x qual params body scope [] [] f fd) (S : FnScope N ps scope) (hlen : ps.length ≤ N.length)
    (hb : ∀ (ds : List PyData) (d : PyData), R ds d → ∀ (A : Around) (outer : List PySem.Env) (s : Shared) (H : Hp) (E : XK), Room k (A.deeper (envOfC qual scope s.heap.objs.size f fd.code)) →
      PBd (cxOf (L2.CX P w) P w K mg base N qual scope f fd.code A outer s H E) tb (fun c d _ H => E c d H) body (sd N ds) (.rt d))
    (hx : ∀ (ds : List PyData) (c : Value), Rx ds c → ∀ (A : Around) (outer : List PySem.Env) (s : Shared) (H : Hp) (E : XK), Room k (A.deeper (envOfC qual scope s.heap.objs.size f fd.code)) →
      PBd (cxOf (L2.CX P w) P w K mg base N qual scope f fd.code A outer s H E) tb (fun c d _ H => E c d H) body (sd N ds) (.ex c)) : FnOk P w K mg base (L2.CX P w) (k + 1) f fd ps (spX K tb ps.length R Rx) := by
  refine fok F S (fun vs H Q E h => ?_) fun A outer s H vs Q E hr h => ?_
  · obtain ⟨_, _, h, _⟩ := h
    exact h
  · obtain ⟨Hd, ds, hl, D, ht, hv, hh⟩ := h
    have St : State K tb Hd H Hd H (L2.start N vs) (sd N ds) := ⟨start_env (by rw [hl]; exact hlen) D ht hv, Gr.refl D, fun i xs a e1 _ => (sd_noOwn e1).elim⟩
    rcases hh with ⟨d, hR, q⟩ | ⟨c, hR, q⟩
    · obtain ⟨t, p, r⟩ := hb ds d hR A outer s H E hr
      exact ⟨t, p, r Hd H Hd H _ _ St fun v Hd' H' g ht' dv => q v Hd' H' g ht' dv⟩
    · obtain ⟨t, p, r⟩ := hx ds c hR A outer s H E hr
      exact ⟨t, p, r Hd H Hd H _ _ St fun _ Hd' H' g ht' => q Hd' H' g ht'⟩
structure FnX (P : Program) (w : World) (K : PySem.W.Frag) (mg : Str → Option Value) (base : Heap) (tb : List Addr) (x : Str) (ps : List Str) (k : Nat) (R : List PyData → PyData → Prop) (Rx : List PyData → Value → Prop) : Prop where
  ex : ∃ (f : Addr) (fd : FuncData), FnOk P w K mg base (L2.CX P w) k f fd ps (spX K tb ps.length R Rx) ∧ mg x = some (.ref f) ∧ PySem.W.keepIn K (.ref f) = true ∧ Binds K fd ps []
end
section
variable {X : Cx} {tb : List Addr} {W : WX'} {ds es : List Sl} {d e f : PyData} {a b : Expr} {pos p : Pos} {x : Str} {args : List Expr} {fs : List PyData} {ps : List Str} {k : Nat} {R : List PyData → PyData → Prop} {Rx : List PyData → Value → Prop} {c : Value}
/-- it hands back -/
theorem ed_callX (G : FnX X.prog X.w X.K X.mg X.base tb x ps k R Rx) (hr : Room k X.A) (ha : PAd X tb (a :: args) ds fs) (hR : R fs d) (hl : fs.length = ps.length := by rfl) (hg : Gl X x := by rfl) (hdb : (x == ("__debug__" : Str)) = false := by decide)
    (he : starEach (a :: args) X.env = (false, eval a X.env) :: starEach args X.env := by rfl) (hpl : (backTo pos (starEach args X.env)).any (·.1) = false := by rfl) : PEd X tb (.Call (.Name x p) (a :: args) [] pos) ds d := by
  obtain ⟨fa, fd, F, hm, hk, hb⟩ := G.ex
  obtain ⟨t, p1, q1⟩ := ha
  refine ⟨_, pe_call F hr hg hm hk hb .nil (passL (X := X)) p1 hdb he hpl, fun Hd H σ E Q z => q1 Hd H σ E _ fun vs Hd1 H1 g dv => ?_⟩
  have E1 := E.up g
  exact ⟨Hd1, fs, by rw [List.append_nil, dpa_len dv]; exact hl, g.h, E1.tb, by rw [List.append_nil]; exact dv, .inl ⟨d, hR, fun v Hd2 H2 g2 _ dv2 => z v Hd2 H2 (g.trans g2) dv2⟩⟩
/-- it raises -/
theorem xd_call {E1 : XK} (G : FnX X.prog X.w X.K X.mg X.base tb x ps k R Rx) (hr : Room k X.A) (tk : Takes X (fun c d _ H => E1 c d H)) (ha : PAd X tb (a :: args) ds fs) (hR : Rx fs c) (hl : fs.length = ps.length := by rfl) (hg : Gl X x := by rfl) (hdb : (x == ("__debug__" : Str)) = false := by decide)
    (he : starEach (a :: args) X.env = (false, eval a X.env) :: starEach args X.env := by rfl) (hpl : (backTo pos (starEach args X.env)).any (·.1) = false := by rfl) : PXd X tb (fun c d _ H => E1 c d H) (.Call (.Name x p) (a :: args) [] pos) ds c := by
  obtain ⟨fa, fd, F, hm, hk, hb⟩ := G.ex
  obtain ⟨t, p1, q1⟩ := ha
  refine ⟨_, pe_call (E := E1) F hr hg hm hk hb .nil (passes_call tk fun _ _ _ _ h => h) p1 hdb he hpl, fun Hd H σ E Q z => q1 Hd H σ E _ fun vs Hd1 H1 g dv => ?_⟩
  have E2 := E.up g
  exact ⟨Hd1, fs, by rw [List.append_nil, dpa_len dv]; exact hl, g.h, E2.tb, by rw [List.append_nil]; exact dv, .inr ⟨c, hR, fun Hd2 H2 g2 t2 => z Hd2 H2 (g.trans g2) t2⟩⟩
/-- .. within a try's body: the wish knows the slots -/
theorem xd_callS (G : FnX X.prog X.w X.K X.mg X.base tb x ps k R Rx) (hr : Room k X.A) (tk : Takes X W) (ha : PAd X tb (a :: args) ds fs) (hR : Rx fs c) (hl : fs.length = ps.length := by rfl) (hg : Gl X x := by rfl) (hdb : (x == ("__debug__" : Str)) = false := by decide)
    (he : starEach (a :: args) X.env = (false, eval a X.env) :: starEach args X.env := by rfl) (hpl : (backTo pos (starEach args X.env)).any (·.1) = false := by rfl) : PXd X tb W (.Call (.Name x p) (a :: args) [] pos) ds c := by
  obtain ⟨fa, fd, F, hm, hk, hb⟩ := G.ex
  obtain ⟨t, p1, q1⟩ := ha
  refine ⟨_, pe_callS F hr hg hm hk hb (fun σ => passAt tk σ) p1 hdb he hpl, fun Hd H σ E Q z => q1 Hd H σ E _ fun vs Hd1 H1 g dv => ?_⟩
  have E2 := E.up g
  exact ⟨Hd1, fs, by rw [dpa_len dv]; exact hl, g.h, E2.tb, dv, .inr ⟨c, hR, fun Hd2 H2 g2 t2 => z Hd2 H2 (g.trans g2) t2⟩⟩
end
end DL
/-! RM: statements as texts, in plain Lean (lists of signs). -/
namespace RM
open PySem L2 DL LM
def low (c : Nat) : Bool := decide (97 ≤ c) && decide (c ≤ 122)
def Op.sgn : Op → Nat
  | .and => 38
  | .or => 124
  | .thn => 62
def wrL : S → List Nat
  | .nm w => w.cps.toList
  | .fls => [35]
  | .bin o a b => 40 :: (wrL a ++ (32 :: Op.sgn o :: 32 :: (wrL b ++ [41])))
def ofL (l : List Nat) : Str := ⟨l.toArray⟩
theorem ofL_list (l : List Nat) : (ofL l).cps.toList = l := rfl
theorem ofL_len (l : List Nat) : (ofL l).length = l.length := by rw [str_len, ofL_list]
theorem ext_list {x y : Str} (h : x.cps.toList = y.cps.toList) : x = y := by
  obtain ⟨⟨x⟩⟩ := x
  obtain ⟨⟨y⟩⟩ := y
  have e : x = y := h
  rw [e]
def wr (s : S) : Str := ofL (wrL s)
def opOf (l : List Nat) : Option Op := if l = [32, 38, 32] then some .and else if l = [32, 124, 32] then some .or else if l = [32, 62, 32] then some .thn else none
/-- the length of the run of letters ahead -/
def runL : List Nat → Nat
  | [] => 0
  | c :: r => if low c = true then runL r + 1 else 0
theorem runL_le : ∀ l : List Nat, runL l ≤ l.length
  | [] => Nat.le_refl _
  | c :: r => by
    unfold runL
    split
    · exact Nat.succ_le_succ (runL_le r)
    · exact Nat.zero_le _
theorem runL_low : ∀ (l : List Nat) (i : Nat), i < runL l → ∃ c, l[i]? = some c ∧ low c = true
  | [], i, h => absurd h (Nat.not_lt_zero _)
  | c :: r, i, h => by
    unfold runL at h
    by_cases q : low c = true
    · rw [if_pos q] at h
      cases i with
      | zero => exact ⟨c, rfl, q⟩
      | succ i => exact runL_low r i (by omega)
    · rw [if_neg q] at h
      exact absurd h (Nat.not_lt_zero _)
theorem runL_end : ∀ (l : List Nat), (∃ c, l[runL l]? = some c ∧ low c = false) ∨ l.length ≤ runL l
  | [] => .inr (Nat.le_refl _)
  | c :: r => by
    unfold runL
    by_cases q : low c = true
    · rw [if_pos q]
      rcases runL_end r with h | h
      · exact .inl h
      · exact .inr (Nat.succ_le_succ h)
    · rw [if_neg q]
      exact .inl ⟨c, rfl, by simpa using q⟩
/-- the statement at the list's head, no more than room deep, and how many signs it takes -/
def parse : Nat → List Nat → Option (S × Nat)
  | 0, _ => none
  | room + 1, r =>
    if r.take 1 = [40] then
      (parse room (r.drop 1)).bind fun p => (opOf (((r.drop 1).drop p.2).take 3)).bind fun o =>
        (parse room ((r.drop 1).drop (p.2 + 3))).bind fun q =>
          if (((r.drop 1).drop (p.2 + 3)).drop q.2).take 1 = [41] then some (.bin o p.1 q.1, p.2 + q.2 + 5) else none
    else if r.take 1 = [35] then some (.fls, 1)
    else if 1 ≤ runL r ∧ runL r ≤ 8 then some (.nm (ofL (r.take (runL r))), runL r) else none
theorem parse_le : ∀ (room : Nat) (r : List Nat) (s : S) (n : Nat), parse room r = some (s, n) → n ≤ r.length ∧ 1 ≤ n
  | 0, _, _, _, h => by cases h
  | room + 1, r, s, n, h => by
    unfold parse at h
    split at h
    · rename_i h1
      obtain ⟨p, e1, h⟩ := Option.bind_eq_some_iff.mp h
      obtain ⟨o, e2, h⟩ := Option.bind_eq_some_iff.mp h
      obtain ⟨q, e3, h⟩ := Option.bind_eq_some_iff.mp h
      split at h
      · rename_i h4
        obtain ⟨a1, a2⟩ := p
        obtain ⟨b1, b2⟩ := q
        have l1 : a2 ≤ (r.drop 1).length := (parse_le room _ a1 a2 e1).1
        have l2 : b2 ≤ ((r.drop 1).drop (a2 + 3)).length := (parse_le room _ b1 b2 e3).1
        have l4 : 1 ≤ (((r.drop 1).drop (a2 + 3)).drop b2).length := by
          have := congrArg List.length h4
          rw [List.length_take, List.length_singleton] at this
          have z : 1 ≤ (List.drop (b1, b2).snd (List.drop ((a1, a2).snd + 3) (List.drop 1 r))).length := by omega
          exact z
        have e5 : a2 + b2 + 5 = n := congrArg Prod.snd (Option.some.inj h)
        rw [List.length_drop, List.length_drop, List.length_drop] at l4
        omega
      · cases h
    · split at h
      · rename_i h2
        cases h
        have := congrArg List.length h2
        rw [List.length_take, List.length_singleton] at this
        omega
      · split at h
        · rename_i h3
          cases h
          exact ⟨runL_le r, h3.1⟩
        · cases h
theorem take_len {l : List Nat} {k n : Nat} (h : (l.take k).length = n) : n ≤ l.length := by
  rw [List.length_take] at h
  omega
theorem opOf_len {l : List Nat} {o : Op} (h : opOf l = some o) : l = [32, Op.sgn o, 32] := by
  unfold opOf at h
  split at h
  · cases h; assumption
  · split at h
    · cases h; assumption
    · split at h
      · cases h; assumption
      · cases h
theorem opOf_sgn (o : Op) : opOf [32, Op.sgn o, 32] = some o := by cases o <;> rfl
/-- what follows a statement's text starts with no letter -/
def Stops (t : List Nat) : Prop := ∀ c, t.head? = some c → low c = false
theorem runL_app : ∀ (l t : List Nat), (∀ c ∈ l, low c = true) → Stops t → runL (l ++ t) = l.length
  | [], [], _, _ => rfl
  | [], c :: r, _, h => by
    have q := h c rfl
    show runL (c :: r) = 0
    unfold runL
    rw [if_neg (by rw [q]; exact Bool.false_ne_true)]
  | c :: l, t, h1, h2 => by
    have q := h1 c List.mem_cons_self
    show runL (c :: (l ++ t)) = _
    unfold runL
    rw [if_pos q, runL_app l t (fun d hd => h1 d (List.mem_cons_of_mem _ hd)) h2] <;> rfl
theorem nm_low {w : Str} (h : NmOk w) : ∀ c ∈ w.cps.toList, low c = true := fun c hc => by
  have := h.2.2 c hc
  unfold low
  rw [decide_eq_true this.1, decide_eq_true this.2] <;> rfl
theorem wrL_head {s : S} (h : Ok s) : ∃ c r, wrL s = c :: r ∧ (c = 40 ∨ c = 35 ∨ low c = true) := by
  cases s with
  | nm w =>
    cases e : w.cps.toList with
    | nil =>
      have := h.1
      rw [str_len, e] at this
      exact absurd this (by decide)
    | cons c r => exact ⟨c, r, e, .inr (.inr (nm_low h c (by rw [e]; exact List.mem_cons_self)))⟩
  | fls => exact ⟨35, [], rfl, .inr (.inl rfl)⟩
  | bin o a b => exact ⟨40, _, rfl, .inl rfl⟩
theorem parse_wr : ∀ (s : S) (room : Nat) (t : List Nat), Ok s → dep s ≤ room → Stops t → parse room (wrL s ++ t) = some (s, (wrL s).length)
  | s, 0, t, _, hd, _ => by
    have := dep_pos s
    omega
  | .nm w, room + 1, t, h, _, ht => by
    have hl := nm_low h
    have hr := runL_app _ t hl ht
    have h1 := h.1
    have h2 := h.2.1
    rw [str_len] at h1 h2
    have hh : ∀ k, low k = false → (w.cps.toList ++ t).take 1 ≠ [k] := fun k hk e => by
      cases q : w.cps.toList with
      | nil => rw [q] at h1; exact absurd h1 (by decide)
      | cons c r =>
        rw [q] at e
        have e2 : c = k := by simpa using e
        have := hl c (by rw [q]; exact List.mem_cons_self)
        rw [e2, hk] at this
        cases this
    show parse (room + 1) (w.cps.toList ++ t) = _
    unfold parse
    rw [if_neg (hh 40 rfl), if_neg (hh 35 rfl), hr, if_pos ⟨h1, h2⟩, List.take_left]
    exact congrArg some (Prod.ext (congrArg S.nm (ext_list rfl)) rfl)
  | .fls, room + 1, t, _, _, _ => rfl
  | .bin o a b, room + 1, t, h, hd, ht => by
    have hd' : max (dep a) (dep b) + 1 ≤ room + 1 := hd
    have ea := parse_wr a room (32 :: Op.sgn o :: 32 :: (wrL b ++ 41 :: t)) h.1 (by omega) (fun c hc => by
      have : c = 32 := by simpa using hc.symm
      rw [this] <;> rfl)
    have eb := parse_wr b room (41 :: t) h.2 (by omega) (fun c hc => by
      have : c = 41 := by simpa using hc.symm
      rw [this] <;> rfl)
    have e0 : wrL (.bin o a b) ++ t = 40 :: (wrL a ++ (32 :: Op.sgn o :: 32 :: (wrL b ++ 41 :: t))) := by
      show 40 :: (wrL a ++ (32 :: Op.sgn o :: 32 :: (wrL b ++ [41]))) ++ t = _
      simp
    rw [e0]
    unfold parse
    rw [if_pos (show List.take 1 (40 :: (wrL a ++ (32 :: Op.sgn o :: 32 :: (wrL b ++ 41 :: t)))) = [40] from rfl)]
    show (parse room (wrL a ++ (32 :: Op.sgn o :: 32 :: (wrL b ++ 41 :: t)))).bind _ = _
    rw [ea, Option.bind_some]
    show (opOf (((wrL a ++ (32 :: Op.sgn o :: 32 :: (wrL b ++ 41 :: t))).drop (wrL a).length).take 3)).bind _ = _
    rw [List.drop_left]
    show (opOf [32, Op.sgn o, 32]).bind _ = _
    rw [opOf_sgn, Option.bind_some]
    have e3 : (wrL a ++ (32 :: Op.sgn o :: 32 :: (wrL b ++ 41 :: t))).drop ((wrL a).length + 3) = wrL b ++ 41 :: t := by
      rw [← List.drop_drop, List.drop_left] <;> rfl
    show (parse room ((wrL a ++ (32 :: Op.sgn o :: 32 :: (wrL b ++ 41 :: t))).drop ((wrL a).length + 3))).bind _ = _
    rw [e3, eb, Option.bind_some]
    show (if (((wrL a ++ (32 :: Op.sgn o :: 32 :: (wrL b ++ 41 :: t))).drop ((wrL a).length + 3)).drop (wrL b).length).take 1 = [41] then _ else _) = _
    rw [e3, List.drop_left, if_pos (show List.take 1 (41 :: t) = [41] from rfl)]
    refine congrArg some (Prod.ext rfl ?_)
    show (wrL a).length + (wrL b).length + 5 = (40 :: (wrL a ++ (32 :: Op.sgn o :: 32 :: (wrL b ++ [41])))).length
    simp
    omega
/-! ### how long a text may be: the length and five are added up -/
def uN (s : S) : Nat := (wrL s).length + 5
theorem uN_bin (o : Op) (a b : S) : uN (.bin o a b) = uN a + uN b := by
  unfold uN
  show (40 :: (wrL a ++ (32 :: Op.sgn o :: 32 :: (wrL b ++ [41])))).length + 5 = _
  simp
  omega
def us : List S → Nat
  | [] => 0
  | s :: r => uN s + us r
theorem us_app : ∀ p q : List S, us (p ++ q) = us p + us q
  | [], q => (Nat.zero_add _).symm
  | s :: p, q => by
    show uN s + us (p ++ q) = _
    rw [us_app p q]
    show _ = uN s + us p + us q
    omega
theorem us_mem : ∀ {p : List S} {s : S}, s ∈ p → uN s ≤ us p
  | t :: p, s, h => by
    show uN s ≤ uN t + us p
    rcases List.mem_cons.mp h with rfl | h
    · omega
    · have := us_mem h
      omega
theorem nm_u {w : Str} (h : NmOk w) : uN (.nm w) ≤ 13 := by
  have := h.2.1
  rw [str_len] at this
  show w.cps.toList.length + 5 ≤ 13
  omega
theorem us_last {p : List S} (h : 0 < p.length) : us p = us p.dropLast + uN (p.getLastD .fls) := by
  obtain ⟨q, x, rfl⟩ : ∃ q x, p = q ++ [x] := ⟨p.dropLast, p.getLast (List.ne_nil_of_length_pos h), (List.dropLast_concat_getLast _).symm⟩
  rw [us_app]
  simp
  rfl
theorem us_two {p : List S} (h : 1 < p.length) : us p = us (p.take (p.length - 2)) + (uN (p.getD (p.length - 2) .fls) + uN (p.getLastD .fls)) := by
  have e := us_last (p := p) (by omega)
  have e1 : p.dropLast = p.take (p.length - 2) ++ [p.getD (p.length - 2) .fls] := by
    rw [List.dropLast_eq_take, show p.length - 1 = p.length - 2 + 1 by omega, List.take_add_one, List.getD_eq_getElem?_getD, List.getElem?_eq_getElem (by omega)] <;> rfl
  rw [e, e1, us_app]
  show _ + (uN _ + 0) + _ = _
  omega
theorem joined_u (way : Int) (a b : S) : uN (joined way a b) = uN a + uN b := by
  unfold joined
  split
  · rw [uN_bin]; omega
  · rw [uN_bin]
theorem stepP_u (seed : Int) (p : List S) (c : Int) {n : Nat} (h : us p ≤ 13 * n) (hn : 1 ≤ n) : us (stepP seed p c) ≤ 13 * (2 * n) := by
  unfold stepP
  split
  · rw [us_app]
    show _ + (6 + 0) ≤ _
    omega
  · split
    · rename_i z
      have r0 : 0 ≤ c / 10 % (p.length : Int) := Int.emod_nonneg _ (by omega)
      have r1 : c / 10 % (p.length : Int) < p.length := Int.emod_lt_of_pos _ (by omega)
      have m := us_mem (mem_getD (p := p) (i := (c / 10 % (p.length : Int)).toNat) (by omega))
      rw [us_app]
      show _ + (uN _ + 0) ≤ _
      omega
    · split
      · rename_i z
        have e := us_last (p := p) z.2
        rw [us_app]
        show _ + (uN _ + 0) ≤ _
        rw [uN_bin]
        show _ + (uN _ + 6 + 0) ≤ _
        omega
      · split
        · rename_i z
          have e := us_two (p := p) (by omega)
          rw [us_app]
          show _ + (uN _ + 0) ≤ _
          rw [joined_u]
          omega
        · have q := nm_u (nameBy_ok seed (c / 10 % 4))
          rw [us_app]
          show _ + (uN _ + 0) ≤ _
          omega
theorem fold_u (seed : Int) : ∀ (cs : List Int) (p : List S) (n : Nat), us p ≤ 13 * n → 1 ≤ n → us (cs.foldl (stepP seed) p) ≤ 13 * (n * 2 ^ cs.length)
  | [], p, n, h, _ => by simpa using h
  | c :: cs, p, n, h, hn => by
    have q := fold_u seed cs (stepP seed p c) (2 * n) (stepP_u seed p c h hn) (by omega)
    have e : 2 * n * 2 ^ cs.length = n * 2 ^ (c :: cs).length := by
      rw [List.length_cons, Nat.pow_succ, Nat.mul_comm 2 n, Nat.mul_assoc, Nat.mul_comm 2]
    rw [e] at q
    exact q
theorem fT_u {p : List S} (h : 1 < p.length) : us (fT p) = us p := by
  unfold fT
  rw [us_app, us_two h]
  show _ + (uN _ + 0) = _
  rw [uN_bin]
  omega
theorem thens_u (p : List S) : ∀ n : Nat, n < p.length → us (thens n p) = us p
  | 0, _ => rfl
  | n + 1, h => by
    have l := thens_len p n (by omega)
    show us (fT (thens n p)) = _
    rw [fT_u (by omega), thens_u p n (by omega)]
theorem stBy_u (cs : List Int) (seed : Int) : uN (stBy cs seed) ≤ 13 * 2 ^ cs.length := by
  have q := fold_u seed cs [] 1 (Nat.zero_le _) (Nat.le_refl _)
  rw [Nat.one_mul] at q
  have q : us (pileOf seed cs) ≤ 13 * 2 ^ cs.length := q
  have h1 : 1 ≤ 2 ^ cs.length := Nat.one_le_two_pow
  unfold stBy
  by_cases hp : 0 < (pileOf seed cs).length
  · have l := thens_len (pileOf seed cs) ((pileOf seed cs).length - 1) (by omega)
    have e := thens_u (pileOf seed cs) ((pileOf seed cs).length - 1) (by omega)
    simp only
    split
    · rename_i e2
      rw [e2] at l
      simp at l
      omega
    · rename_i s r e2
      rw [e2] at e
      have : uN s ≤ us (s :: r) := us_mem List.mem_cons_self
      omega
  · have e : pileOf seed cs = [] := List.eq_nil_of_length_eq_zero (by omega)
    rw [e]
    have := nm_u (nameBy_ok seed 0)
    show uN (.nm (nameBy seed 0)) ≤ _
    omega
end RM
namespace DL
open PySem PySem.Spec PyProof.Rows L2
/-- the written pairs of a display, texts -/
inductive PPd (X : Cx) : List (Option Expr) → List Expr → List (Str × Str) → Prop where
  | nil : PPd X [] [] []
  | cons {k v : Str} {i j : Nat} {p q : Pos} {ks : List (Option Expr)} {vs : List Expr} {r : List (Str × Str)} (h : PPd X ks vs r) : PPd X (some (.Constant (.str k) i p) :: ks) (.Constant (.str v) j q :: vs) ((k, v) :: r)
theorem ppd_ts {X : Cx} {pos : Pos} : ∀ {ks : List (Option Expr)} {vs : List Expr} {r : List (Str × Str)}, PPd X ks vs r → ∃ trs, PPs X pos ks vs trs ∧ ∀ (σ : L2.St) (H : Hp) (Q : List (V × V) → Hp → Prop), Q (r.map fun p => (V.str p.1, V.str p.2)) H → tPairs trs σ H Q
  | _, _, _, .nil => ⟨[], pps_nil, fun _ _ _ q => q⟩
  | _, _, _, .cons h => by
    obtain ⟨trs, p, q⟩ := ppd_ts (pos := pos) h
    exact ⟨_, pps_cons pe_str pe_str p, fun σ H Q z => q σ H _ z⟩
theorem ppd_all {X : Cx} : ∀ {ks : List (Option Expr)} {vs : List Expr} {r : List (Str × Str)}, PPd X ks vs r → ks.all (·.isSome) = true ∧ ks.length = vs.length ∧ ks.length = r.length
  | _, _, _, .nil => ⟨rfl, rfl, rfl⟩
  | _, _, _, .cons h => by
    obtain ⟨h1, h2, h3⟩ := ppd_all h
    exact ⟨by rw [List.all_cons, h1] <;> rfl, congrArg (· + 1) h2, congrArg (· + 1) h3⟩
def keyed (r : List (Str × Str)) : List (Key × V) := r.map fun p => (Sum.inr p.1, V.str p.2)
section
variable {X : Cx} {tb : List Addr} {W : WX'} {ds es : List Sl} {d e f : PyData} {a b : Expr} {pos pos' p : Pos}
/-- {written}[key] -/
theorem ed_dispGet {ks : List (Option Expr)} {vs : List Expr} {r : List (Str × Str)} {z v : Str} {k : Nat} (hr : Room k X.A) (h : PPd X ks vs r) (ha : PEd X tb a ds (.str z)) (hv : valV (mergeK [] (keyed r)) (Sum.inr z) = some (.str v)) (h0 : ks ≠ [] := by exact fun z => nomatch z) (h15 : ks.length ≤ 15 := by decide) (hs : NoSl a := by exact fun _ _ => rfl) :
    PEd X tb (.Subscript (.Dict ks vs pos') a pos) ds (.str v) := by
  obtain ⟨trs, p1, q1⟩ := ppd_ts (pos := pos') h
  obtain ⟨l1, l2, l3⟩ := ppd_all h
  obtain ⟨t, p2, q2⟩ := ha
  refine ⟨_, pe_dget (hu_of hr) (pe_disp p1 l1 l2 h0 h15) p2 hs, fun Hd H σ E Q q => ?_⟩
  intro c hc
  refine q1 σ _ _ ⟨upd_same, keyed r, ?_, ?_, ?_⟩
  · unfold keyed
    rw [List.map_map] <;> rfl
  · unfold keyed
    rw [List.length_map, ← l3]
    exact h15
  · rw [upd_upd]
    have g := Gr.newOut (o := .dK (mergeK [] (keyed r))) E.dh hc
    refine q2 Hd _ σ (E.up g) _ fun w Hd1 H1 g1 dw => ?_
    cases dw
    exact ⟨c, .str v, rfl, hv ▸ DGet.k (k := Sum.inr z) (g1.e.k c _ upd_same fun _ z => nomatch z), q _ Hd1 H1 (g.trans g1) (.str v)⟩
end
end DL
/-! RN: a name's signs; what the program's is_name tells. -/
namespace RM
open PySem PySem.Spec PyProof.Rows L2 DL LM GxR
theorem lt_one (a b : Nat) : decide (([a] : List Nat) < [b]) = decide (a < b) := by
  refine decide_eq_decide.mpr ⟨fun h => ?_, fun h => ?_⟩
  · rcases List.cons_lt_cons_iff.mp h with h | ⟨_, h⟩
    · exact h
    · exact absurd h (by simp)
  · exact List.cons_lt_cons_iff.mpr (.inl h)
theorem not_lt_le (a b : Nat) : (!decide (a < b)) = decide (b ≤ a) := by
  by_cases h : a < b
  · rw [decide_eq_true h, decide_eq_false (by omega)] <;> rfl
  · rw [decide_eq_false h, decide_eq_true (by omega)] <;> rfl
/-- 'a' <= x <= 'z' -/
theorem elt_low {prog : Program} {w : World} {scope : Scope} {x : Str} {i j : Nat} {p1 p2 p3 p4 : Pos} (hk : scope.kind = .function) (hl : scope.names.lookup x = some .local) (hd : (x == ("__debug__" : Str)) = false := by decide)
    (hm : lastMarks [.LtE, .LtE] [.Name x p2, .Constant (.str "z") j p3] = false := by with_unfolding_all rfl) : EltP prog w scope x (.Compare (.Constant (.str "a") i p1) [.LtE, .LtE] [.Name x p2, .Constant (.str "z") j p3] p4) low := by
  intro cenv A' E' c t s₂ m₂ hs hn hx
  refine Compare_chain (Calls.Constant_str (chain_link (wpAny_Name (wpAny_loadName_local (by rw [hs]; exact hk) (show cenv.scope.names.lookup x = some .local by rw [hs]; exact hl) hn hx ?_) hd))) hm
  refine PySem.P.le_str ?_
  refine wpAny_truthy_bool ?_
  have e1 : (!decide ((⟨#[c]⟩ : Str).cps.toList < ("a" : Str).cps.toList)) = decide (97 ≤ c) := by
    show (!decide (([c] : List Nat) < [97])) = _
    rw [lt_one, not_lt_le]
  rw [e1]
  by_cases h : 97 ≤ c
  · rw [decide_eq_true h, if_pos rfl]
    refine chain_last (Calls.Constant_str (PySem.P.le_str ?_))
    have e2 : (!decide (("z" : Str).cps.toList < (⟨#[c]⟩ : Str).cps.toList)) = decide (c ≤ 122) := by
      show (!decide (([122] : List Nat) < [c])) = _
      rw [lt_one, not_lt_le]
    rw [e2]
    refine ⟨?_, keeps_tok _ _⟩
    unfold low
    rw [decide_eq_true h] <;> rfl
  · rw [decide_eq_false h, if_neg Bool.false_ne_true]
    refine ⟨?_, keeps_tok _ _⟩
    unfold low
    rw [decide_eq_false h] <;> rfl
def isNm (z : Str) : Bool := (decide (1 ≤ z.length) && decide (z.length ≤ 8)) && z.cps.toList.all low
def isNmD : PyData → Bool
  | .str z => isNm z
  | _ => false
theorem isNm_ok {z : Str} : isNm z = true ↔ NmOk z := by
  unfold isNm NmOk
  rw [Bool.and_eq_true, Bool.and_eq_true, decide_eq_true_eq, decide_eq_true_eq, List.all_eq_true, and_assoc]
  refine and_congr_right fun _ => and_congr_right fun _ => forall_congr' fun c => imp_congr_right fun _ => ?_
  unfold low
  rw [Bool.and_eq_true, decide_eq_true_eq, decide_eq_true_eq]
/-! ### the signs and words -/
def sgnS : Op → Str
  | .and => "&"
  | .or => "|"
  | .thn => ">"
theorem sgnS_list (o : Op) : (sgnS o).cps.toList = [Op.sgn o] := by cases o <;> rfl
theorem word_ne (o : Op) : ¬ o.word = "name" ∧ ¬ o.word = "false" := by cases o <;> decide +kernel
theorem wr_bin (o : Op) (a b : S) : (((((Str.empty ++ "(" ++ wr a) ++ " ") ++ sgnS o) ++ " ") ++ wr b) ++ ")" = wr (.bin o a b) := by
  refine ext_list ?_
  simp only [str_app, sgnS_list]
  show [] ++ [40] ++ wrL a ++ [32] ++ [Op.sgn o] ++ [32] ++ wrL b ++ [41] = 40 :: (wrL a ++ (32 :: Op.sgn o :: 32 :: (wrL b ++ [41])))
  simp
theorem wr_bin2 (o : Op) (a b : S) : (((((("(" : Str) ++ wr a) ++ " ") ++ sgnS o) ++ " ") ++ wr b) ++ ")" = wr (.bin o a b) := by
  refine ext_list ?_
  simp only [str_app, sgnS_list]
  show [40] ++ wrL a ++ [32] ++ [Op.sgn o] ++ [32] ++ wrL b ++ [41] = 40 :: (wrL a ++ (32 :: Op.sgn o :: 32 :: (wrL b ++ [41])))
  simp
theorem wr_len (s : S) : (wr s).length = (wrL s).length := ofL_len _
theorem wr_nm (w : Str) : wr (.nm w) = w := ext_list rfl
theorem uN_eq (s : S) : uN s = (wr s).length + 5 := by
  rw [wr_len] <;> rfl
theorem sgnS_len (o : Op) : (sgnS o).length = 1 := by cases o <;> rfl
end RM
/-! RP: reading a text, in plain Lean. -/
namespace RM
open PySem PySem.Spec PyProof.Rows L2 DL LM GxR
theorem cut_nn (z : Str) (i j : Nat) : cutS z (some (i : Int)) (some (j : Int)) = ofL ((z.cps.toList.drop i).take (j - i)) := ext_list (by rw [cutS_cut, cut_nat, ofL_list])
theorem cut_1 (z : Str) (i : Nat) : cutS z (some (i : Int)) (some ((i : Int) + 1)) = ofL ((z.cps.toList.drop i).take 1) := by
  rw [show ((i : Int) + 1) = ((i + 1 : Nat) : Int) from rfl, cut_nn, show i + 1 - i = 1 by omega]
theorem cut_3 (z : Str) (i : Nat) : cutS z (some (i : Int)) (some ((i : Int) + 3)) = ofL ((z.cps.toList.drop i).take 3) := by
  rw [show ((i : Int) + 3) = ((i + 3 : Nat) : Int) from rfl, cut_nn, show i + 3 - i = 3 by omega]
theorem ofL_inj {l m : List Nat} (h : ofL l = ofL m) : l = m := by
  have := congrArg (fun z : Str => z.cps.toList) h
  exact this
theorem isNm_ofL (l : List Nat) : isNm (ofL l) = ((decide (1 ≤ l.length) && decide (l.length ≤ 8)) && l.all low) := by
  unfold isNm
  rw [ofL_len, ofL_list]
theorem isNm_one (c : Nat) : isNm (ofL [c]) = low c := by
  rw [isNm_ofL]
  show (true && (low c && true)) = low c
  cases low c <;> rfl
theorem isNm_nil : isNm (ofL []) = false := rfl
theorem drop_at {α : Type} {l : List α} {i : Nat} {c : α} (h : l[i]? = some c) : (l.drop i).take 1 = [c] := by
  obtain ⟨h1, h2⟩ := List.getElem?_eq_some_iff.mp h
  rw [List.drop_eq_getElem_cons h1, h2] <;> rfl
theorem run_on {l : List Nat} {st i : Nat} (h : i < runL (l.drop st)) : isNm (ofL ((l.drop (st + i)).take 1)) = true := by
  obtain ⟨c, h1, h2⟩ := runL_low _ i h
  rw [List.getElem?_drop] at h1
  rw [drop_at h1, isNm_one, h2]
theorem run_off (l : List Nat) (st : Nat) : isNm (ofL ((l.drop (st + runL (l.drop st))).take 1)) = false := by
  rcases runL_end (l.drop st) with ⟨c, h1, h2⟩ | h
  · rw [List.getElem?_drop] at h1
    rw [drop_at h1, isNm_one, h2]
  · rw [List.length_drop] at h
    rw [List.drop_eq_nil_of_le (by omega)]
    exact isNm_nil
theorem all_of_get {l : List Nat} (h : ∀ i, i < l.length → ∃ c, l[i]? = some c ∧ low c = true) : l.all low = true := by
  rw [List.all_eq_true]
  intro c hc
  obtain ⟨i, hi, e⟩ := List.mem_iff_getElem.mp hc
  obtain ⟨d, e1, e2⟩ := h i hi
  rw [List.getElem?_eq_getElem hi, e] at e1
  cases e1
  exact e2
theorem run_isNm (r : List Nat) : isNm (ofL (r.take (runL r))) = (decide (1 ≤ runL r) && decide (runL r ≤ 8)) := by
  have l := runL_le r
  have e : (r.take (runL r)).all low = true := all_of_get fun i hi => by
    rw [List.length_take] at hi
    obtain ⟨c, e1, e2⟩ := runL_low r i (by omega)
    exact ⟨c, by rw [List.getElem?_take, if_pos (by omega), e1], e2⟩
  rw [isNm_ofL, e, List.length_take, Nat.min_eq_left l, Bool.and_true]
/-- read in the way of the program's functions -/
theorem parse_zero (r : List Nat) : parse 0 r = none := rfl
theorem parse_br {room : Nat} {l : List Nat} {st n : Nat} {s : S} (h1 : (l.drop st).take 1 = [40]) (h : parse (room + 1) (l.drop st) = some (s, n)) :
    ∃ o a b na nb, s = .bin o a b ∧ n = na + nb + 5 ∧ parse room (l.drop (st + 1)) = some (a, na) ∧ (l.drop (st + 1 + na)).take 3 = [32, Op.sgn o, 32] ∧ parse room (l.drop (st + 1 + na + 3)) = some (b, nb) ∧ (l.drop (st + 1 + na + 3 + nb)).take 1 = [41] := by
  unfold parse at h
  rw [if_pos h1] at h
  obtain ⟨⟨a, na⟩, e1, h⟩ := Option.bind_eq_some_iff.mp h
  obtain ⟨o, e2, h⟩ := Option.bind_eq_some_iff.mp h
  obtain ⟨⟨b, nb⟩, e3, h⟩ := Option.bind_eq_some_iff.mp h
  split at h
  · rename_i h4
    cases h
    rw [List.drop_drop] at e1
    have e2 := opOf_len e2
    rw [List.drop_drop, List.drop_drop] at e2
    rw [List.drop_drop, List.drop_drop] at e3
    rw [List.drop_drop, List.drop_drop, List.drop_drop] at h4
    refine ⟨o, a, b, na, nb, rfl, rfl, e1, ?_, ?_, ?_⟩
    · rw [show st + 1 + na = st + (1 + na) by omega]; exact e2
    · rw [show st + 1 + na + 3 = st + (1 + (na + 3)) by omega]; exact e3
    · rw [show st + 1 + na + 3 + nb = st + (1 + (na + 3 + nb)) by omega]; exact h4
  · cases h
theorem parse_fls {room : Nat} {l : List Nat} {st n : Nat} {s : S} (h0 : ¬ (l.drop st).take 1 = [40]) (h1 : (l.drop st).take 1 = [35]) (h : parse (room + 1) (l.drop st) = some (s, n)) : s = .fls ∧ n = 1 := by
  unfold parse at h
  rw [if_neg h0, if_pos h1] at h
  cases h
  exact ⟨rfl, rfl⟩
theorem parse_nm {room : Nat} {l : List Nat} {st n : Nat} {s : S} (h0 : ¬ (l.drop st).take 1 = [40]) (h1 : ¬ (l.drop st).take 1 = [35]) (h : parse (room + 1) (l.drop st) = some (s, n)) :
    1 ≤ runL (l.drop st) ∧ runL (l.drop st) ≤ 8 ∧ s = .nm (ofL ((l.drop st).take (runL (l.drop st)))) ∧ n = runL (l.drop st) := by
  unfold parse at h
  rw [if_neg h0, if_neg h1] at h
  split at h
  · rename_i h2
    cases h
    exact ⟨h2.1, h2.2, rfl, rfl⟩
  · cases h
end RM
/-! DL16: the law's entry. -/
namespace DL
open PySem PySem.Spec PyProof.Rows L2
def noTab (H : Hp) : Hp := fun b => match H b with
  | some (.tbl _) => none
  | o => o
theorem noTab_dh (H : Hp) : DH (noTab H) H := by
  refine ⟨fun a o e => ?_, fun a ps e => ?_⟩
  · unfold noTab at e
    split at e
    · cases e
    · exact e
  · unfold noTab at e
    split at e
    · cases e
    · rename_i h
      exact h ps e
theorem noTab_at {H : Hp} {a : Addr} {o : HO} (h : H a = some o) (n : ∀ ps, o ≠ .tbl ps) : noTab H a = some o := by
  unfold noTab
  rw [h]
  cases o <;> first | rfl | exact absurd rfl (n _)
theorem sp_entry {K : PySem.W.Frag} {tb : List Addr} {R : List PyData → PyData → Prop} {H : Hp} {a : Addr} {ns : List Int} (hT : ∀ p ∈ tb, H p = some (.tbl #[])) (hS : SqL K H a (ns.map V.int)) (hR : R [.list (ns.map .int)] (.bool true)) :
    spD K tb 1 R [.ref a] H (fun v _ => v = .bl true) fun _ _ _ => False := by
  refine ⟨noTab H, [.list (ns.map .int)], .bool true, rfl, noTab_dh H, fun p hp => ⟨#[], hT p hp, ?_⟩, .cons (.lst (xs := ns.map V.int) ?_ (dpa_ints ns)) .nil, hR, fun v Hd' H' g ht dv => ?_⟩
  · exact trivial
  · rcases hS with h | h
    · refine .inl ?_
      rcases h with h | ⟨o, h⟩
      · exact .inl (noTab_at h fun _ z => nomatch z)
      · exact .inr ⟨o, noTab_at h fun _ z => nomatch z⟩
    · exact .inr h
  · cases dv
    rfl
end DL
/-! DL17: a text among texts; a list's index. -/
namespace DL
open PySem PySem.Spec PyProof.Rows L2
section
variable {X : Cx} {tb : List Addr} {W : WX'} {ds es : List Sl} {d e f : PyData} {a b : Expr} {pos p : Pos} {K : PySem.W.Frag}
theorem strs_flat : ∀ ys : List Str, (ys.map V.str).all flatV = true
  | [] => rfl
  | y :: r => strs_flat r
theorem inV_strs {z : Str} : ∀ ys : List Str, inV (.str z) (ys.map V.str) = decide (z ∈ ys)
  | [] => rfl
  | y :: r => by
    show (eqV (.str y) (.str z) || inV (.str z) (r.map V.str)) = _
    rw [inV_strs r]
    have e : eqV (.str y) (.str z) = decide (y = z) := by
      show (y == z) = _
      by_cases h : y = z
      · rw [h, decide_eq_true rfl]; exact beq_self_eq_true z
      · rw [decide_eq_false h]; exact beq_eq_false_iff_ne.mpr h
    rw [e]
    by_cases h : y = z
    · subst h
      simp
    · have h2 : ¬ z = y := fun q => h q.symm
      simp [h, h2]
theorem rv_inStr {neg : Bool} {z : Str} {ys : List Str} : RvD K tb (rIn K neg) (.str z) (.list (ys.map .str)) (.bool (if neg then !decide (z ∈ ys) else decide (z ∈ ys))) := fun Hd H x y D _ dx dy Q q => by
  cases dx
  cases dy with
  | @lst p vs _ k1 k2 =>
    have e := dpa_strs k2
    subst e
    refine ⟨p, _, rfl, .inl (sl_sub D.s k1), rfl, strs_flat ys, ?_⟩
    rw [inV_strs]
    exact q _ Hd H (Gr.refl D) (.bl _)
theorem cmp_inStr {z : Str} {ys : List Str} : CmpD X tb .In (.str z) (.list (ys.map .str)) (decide (z ∈ ys)) := ⟨⟨_, op_in_seq, rv_inStr (neg := false)⟩⟩
theorem cmp_notInStr {z : Str} {ys : List Str} : CmpD X tb .NotIn (.str z) (.list (ys.map .str)) (!decide (z ∈ ys)) := ⟨⟨_, op_notIn_seq, rv_inStr (neg := true)⟩⟩
theorem eqV_str (y z : Str) : eqV (.str y) (.str z) = decide (y = z) := by
  show (y == z) = _
  by_cases h : y = z
  · rw [h, decide_eq_true rfl]; exact beq_self_eq_true z
  · rw [decide_eq_false h]; exact beq_eq_false_iff_ne.mpr h
theorem rm_indexL {z : Str} {ys : List Str} {j : Nat} (hj : ys[j]? = some z) (hn : ∀ m, m < j → ys[m]? ≠ some z) : RmD K (rIndex K) (.list (ys.map .str)) [.str z] (.int (j : Nat)) := fun Hd H x xs D dx dxs Q q => by
  cases dx with
  | @lst p vs _ k1 k2 =>
    have e := dpa_strs k2
    subst e
    cases dxs with
    | cons m1 m2 =>
      cases m2
      cases m1
      refine ⟨p, ys.map V.str, .str z, j, .str z, rfl, rfl, sl_sub D.s k1, rfl, strs_flat ys, by rw [List.getElem?_map, hj] <;> rfl, by rw [eqV_str, decide_eq_true rfl], fun m z' hm hz => ?_, q _ Hd H (Gr.refl D) (.int _)⟩
      rw [List.getElem?_map] at hz
      cases e : ys[m]? with
      | none => rw [e] at hz; cases hz
      | some y =>
        rw [e] at hz
        cases hz
        rw [eqV_str, decide_eq_false fun h => hn m hm (by rw [e, h])]
/-- [texts].index(text), there -/
theorem ed_indexL {z : Str} {ys : List Str} {j : Nat} {apos : Pos} (hb : PEd X tb b ds (.list (ys.map .str))) (ha : PEd X tb a ds (.str z)) (hj : ys[j]? = some z) (hn : ∀ m, m < j → ys[m]? ≠ some z) (hs : starEach [a] X.env = (false, eval a X.env) :: starEach [] X.env := by rfl)
    (hbase : attributeBase b "index" X.env (eval b X.env) = eval b X.env := by rfl)
    (hfew : ((backTo pos (starEach [a] X.env)).all (fun x => !x.1) && (backToKw pos (keywordEach [] X.env)).all (fun x => x.1.isSome)
      && decide ([a].length + ([] : List Keyword).length + (if ([] : List Keyword).isEmpty then 0 else 1) < 30)) = true := by rfl)
    (hline : (apos.endLine == pos.line) = true := by rfl) (hplain : (backTo pos (starEach [] X.env)).any (·.1) = false := by rfl) : PEd X tb (.Call (.Attribute b "index" apos) [a] [] pos) ds (.int (j : Nat)) :=
  ed_bm PySem.F.plainAttrs_list PySem.F.slot_list_index PySem.F.type_list_index mt_index (rm_indexL hj hn) rfl hb (ad_cons ha ad_nil hs) hbase hfew hline hs hplain
theorem eqv_tnil (xs : List PyData) : PyData.eqv (.tuple xs) (.tuple []) = xs.isEmpty := by
  cases xs <;> rfl
end
end DL
/-! RQ: reading a text, the equations. -/
namespace RM
open PySem PySem.Spec PyProof.Rows L2 DL LM GxR
theorem parse_br_eq {room : Nat} {l : List Nat} {st : Nat} (h1 : (l.drop st).take 1 = [40]) : parse (room + 1) (l.drop st) = (parse room (l.drop (st + 1))).bind fun p => (opOf ((l.drop (st + 1 + p.2)).take 3)).bind fun o =>
    (parse room (l.drop (st + 1 + p.2 + 3))).bind fun q => if (l.drop (st + 1 + p.2 + 3 + q.2)).take 1 = [41] then some (.bin o p.1 q.1, p.2 + q.2 + 5) else none := by
  show (if (l.drop st).take 1 = [40] then _ else _) = _
  rw [if_pos h1]
  have e0 : (l.drop st).drop 1 = l.drop (st + 1) := by rw [List.drop_drop]
  rw [e0]
  cases parse room (l.drop (st + 1)) with
  | none => rfl
  | some p =>
    rw [Option.bind_some, Option.bind_some, List.drop_drop]
    cases opOf ((l.drop (st + 1 + p.2)).take 3) with
    | none => rfl
    | some o =>
      rw [Option.bind_some, Option.bind_some, List.drop_drop]
      have e3 : l.drop (st + 1 + (p.2 + 3)) = l.drop (st + 1 + p.2 + 3) := rfl
      rw [e3]
      cases parse room (l.drop (st + 1 + p.2 + 3)) with
      | none => rfl
      | some q => rw [Option.bind_some, Option.bind_some, List.drop_drop]
theorem parse_fls_eq {room : Nat} {l : List Nat} {st : Nat} (h1 : (l.drop st).take 1 = [35]) : parse (room + 1) (l.drop st) = some (.fls, 1) := by
  show (if (l.drop st).take 1 = [40] then _ else _) = _
  rw [if_neg (by rw [h1]; decide), if_pos h1]
theorem parse_nm_eq {room : Nat} {l : List Nat} {st : Nat} (h0 : ¬ (l.drop st).take 1 = [40]) (h1 : ¬ (l.drop st).take 1 = [35]) : parse (room + 1) (l.drop st) = if 1 ≤ runL (l.drop st) ∧ runL (l.drop st) ≤ 8 then some (.nm (ofL ((l.drop st).take (runL (l.drop st)))), runL (l.drop st)) else none := by
  show (if (l.drop st).take 1 = [40] then _ else _) = _
  rw [if_neg h0, if_neg h1]
theorem let_mem (c : Nat) : decide (c ∈ ("abcdefghijklmnopqrstuvwxyz" : Str).cps.toList) = low c := by
  have e : ("abcdefghijklmnopqrstuvwxyz" : Str).cps.toList = (List.range 26).map (· + 97) := by decide +kernel
  rw [e]
  unfold low
  rw [← Bool.decide_and]
  refine decide_eq_decide.mpr ⟨fun h => ?_, fun h => ?_⟩
  · obtain ⟨j, hj, e⟩ := List.mem_map.mp h
    have := List.mem_range.mp hj
    omega
  · exact List.mem_map.mpr ⟨c - 97, List.mem_range.mpr (by omega), by omega⟩
/-- what is read is made of names alone, no deeper than the room -/
theorem parse_ok : ∀ (room : Nat) (r : List Nat) (s : S) (n : Nat), parse room r = some (s, n) → Ok s ∧ dep s ≤ room
  | 0, _, _, _, h => by cases h
  | room + 1, r, s, n, h => by
    have e : r = r.drop 0 := rfl
    rw [e] at h
    by_cases h1 : (r.drop 0).take 1 = [40]
    · rw [parse_br_eq h1] at h
      obtain ⟨p, e1, h⟩ := Option.bind_eq_some_iff.mp h
      obtain ⟨o, e2, h⟩ := Option.bind_eq_some_iff.mp h
      obtain ⟨q, e3, h⟩ := Option.bind_eq_some_iff.mp h
      split at h
      · cases h
        obtain ⟨a1, a2⟩ := parse_ok room _ p.1 p.2 e1
        obtain ⟨b1, b2⟩ := parse_ok room _ q.1 q.2 e3
        refine ⟨⟨a1, b1⟩, ?_⟩
        show max (dep p.1) (dep q.1) + 1 ≤ room + 1
        omega
      · cases h
    · by_cases h2 : (r.drop 0).take 1 = [35]
      · rw [parse_fls_eq h2] at h
        cases h
        exact ⟨trivial, Nat.succ_le_succ (Nat.zero_le _)⟩
      · rw [parse_nm_eq h1 h2] at h
        split at h
        · rename_i h3
          cases h
          refine ⟨isNm_ok.mp ?_, Nat.succ_le_succ (Nat.zero_le _)⟩
          rw [run_isNm, decide_eq_true h3.1, decide_eq_true h3.2] <;> rfl
        · cases h
def lrOf (o : Option (S × Nat)) (st : Nat) : PyData := match o with
  | some (s, n) => .tuple [enc s, .int (st + n : Nat)]
  | none => .tuple []
theorem lr_shaped {room : Nat} {r : List Nat} (h : room ≤ 60) (st : Nat) : SeqAt.shaped (lrOf (parse room r) st) = true := by
  cases e : parse room r with
  | none =>
    show SeqAt.shaped (.tuple []) = true
    decide +kernel
  | some p =>
    obtain ⟨s, n⟩ := p
    obtain ⟨h1, h2⟩ := parse_ok room r s n e
    have h3 := enc_lay s h1
    have h4 := enc_depth s
    show SeqAt.shaped (.tuple [enc s, .int (st + n : Nat)]) = true
    unfold SeqAt.shaped
    have e1 : PyData.canLay0 (.tuple [enc s, .int (st + n : Nat)]) = true := by
      simp only [PyData.canLay0, PyData.canLayAll0, h3, Bool.and_true]
    have e2 : PyData.depth (.tuple [enc s, .int (st + n : Nat)]) ≤ 64 := by
      simp only [PyData.depth, PyData.depthAll]
      omega
    rw [e1, decide_eq_true e2] <;> rfl
theorem lr_nil (o : Option (S × Nat)) (st : Nat) : PyData.eqv (lrOf o st) (.tuple []) = o.isNone := by
  cases o with
  | none => rfl
  | some p => exact eqv_tnil _
def ops3 : List Str := [" & ", " | ", " > "]
theorem op_in (l : List Nat) : decide (ofL l ∈ ops3) = (opOf l).isSome := by
  have e : ops3 = [ofL [32, 38, 32], ofL [32, 124, 32], ofL [32, 62, 32]] := rfl
  rw [e]
  unfold opOf
  by_cases h1 : l = [32, 38, 32]
  · rw [if_pos h1, h1]; decide +kernel
  rw [if_neg h1]
  by_cases h2 : l = [32, 124, 32]
  · rw [if_pos h2, h2]; decide +kernel
  rw [if_neg h2]
  by_cases h3 : l = [32, 62, 32]
  · rw [if_pos h3, h3]; decide +kernel
  rw [if_neg h3]
  refine decide_eq_false fun h => ?_
  rcases List.mem_cons.mp h with h | h
  · exact h1 (ofL_inj h)
  · rcases List.mem_cons.mp h with h | h
    · exact h2 (ofL_inj h)
    · exact h3 (ofL_inj (List.mem_singleton.mp h))
def opIx : Op → Nat
  | .and => 0
  | .or => 1
  | .thn => 2
theorem op_at {l : List Nat} {o : Op} (h : opOf l = some o) : ops3[opIx o]? = some (ofL l) ∧ ∀ m, m < opIx o → ops3[m]? ≠ some (ofL l) := by
  have e := opOf_len h
  rw [e]
  cases o with
  | and => exact ⟨rfl, fun m hm => absurd hm (Nat.not_lt_zero _)⟩
  | or => exact ⟨rfl, fun m hm => by
      have hm : m < 1 := hm
      have : m = 0 := by omega
      subst this
      decide +kernel⟩
  | thn => exact ⟨rfl, fun m hm => by
      have hm : m < 2 := hm
      have : m = 0 ∨ m = 1 := by omega
      rcases this with rfl | rfl <;> decide +kernel⟩
theorem op_word (o : Op) : ([.str "and", .str "or", .str "then"] : List PyData)[opIx o]? = some (.str o.word) := by cases o <;> rfl
end RM
/-! DL18: what a table has not; numbers in messages. -/
namespace DL
open PySem PySem.Spec PyProof.Rows L2
theorem find_no {P : Params} {z : Str} : ∀ {l : List DictEntry} {ks : List Str}, l.map He.keyOf = He.keysIn P ks → z ∉ ks → l.find? (·.key.isStr z) = none ∧ l.any (·.refKey) = false
  | [], _, _, _ => ⟨rfl, rfl⟩
  | e :: r, [], h, _ => by cases h
  | e :: r, k :: ks, h, hz => by
    have h1 : He.keyOf e :: r.map He.keyOf = some (k, PyData.keyHash P k) :: He.keysIn P ks := h
    injection h1 with h2 h3
    have hk : ¬ k = z := fun q => hz (by rw [q]; exact List.mem_cons_self)
    obtain ⟨i1, i2⟩ := find_no h3 fun q => hz (List.mem_cons_of_mem _ q)
    unfold He.keyOf at h2
    split at h2
    · rename_i x t q
      have h4 := (Prod.mk.inj (Option.some.inj h2)).1
      have e1 : e.key.isStr z = false := by
        rw [q, h4]
        exact beq_eq_false_iff_ne.mpr hk
      have e2 : e.refKey = false := by
        unfold DictEntry.refKey
        rw [q] <;> rfl
      refine ⟨?_, ?_⟩
      · rw [List.find?_cons, e1]
        exact i1
      · rw [List.any_cons, e2, i2] <;> rfl
    · cases h2
theorem ns_none {P : Params} {K : PySem.W.Frag} {a : Addr} {ks : List Str} {z : Str} (h : He.dicW K a = some (He.keysIn P ks)) (hz : z ∉ ks) : PySem.W.nsIn K a z = some none := by
  unfold He.dicW at h
  cases q : K.lookup a with
  | none =>
    rw [q] at h
    cases h
  | some o =>
    obtain ⟨oc, od, dt, osl⟩ := o
    rw [q] at h
    cases oc with
    | type c =>
      cases od with
      | none =>
        cases dt with
        | dict es n =>
          have h1 : (match decide (c = "dict") && (osl.isEmpty && !(a == sysModules)) with
            | true => some (es.toList.map He.keyOf)
            | false => none) = some (He.keysIn P ks) := h
          cases y : decide (c = "dict") && (osl.isEmpty && !(a == sysModules)) with
          | false =>
            rw [y] at h1
            cases h1
          | true =>
            rw [y] at h1
            obtain ⟨i1, i2⟩ := find_no (Option.some.inj h1) hz
            unfold PySem.W.nsIn
            rw [q]
            show (match es.toList.find? (·.key.isStr z) with
              | some e => some (some e.val)
              | none => if es.toList.any (·.refKey) then none else some none) = some none
            rw [i1]
            show (if es.toList.any (·.refKey) = true then none else some none) = some none
            rw [i2] <;> rfl
        | _ => cases h
      | some b => cases dt <;> cases h
    | _ => cases od <;> cases dt <;> cases h
theorem tab_keys {fa : List He.Fa} {fn : List He.DefD} {ts : List He.Tab} {w : World} {K : PySem.W.Frag} (c : He.SaysT fa fn ts w K) (i : Nat) {t : He.Tab} (h : ts[i]? = some t := by rfl) : He.dicW K (t.1 K) = some (He.keysIn w.params t.2) := by
  have e : ts.map (fun t => He.dicW K (t.1 K)) = ts.map fun t => some (He.keysIn w.params t.2) := congrArg (fun z : He.AlT => z.2) c
  have e2 : (ts.map fun t => He.dicW K (t.1 K))[i]? = (ts.map fun t => some (He.keysIn w.params t.2))[i]? := by rw [e]
  rw [List.getElem?_map, List.getElem?_map, h] at e2
  exact Option.some.inj e2
theorem log_small {n : Nat} (h : n < 10 ^ 10) : (n : Int).natAbs.log2 < 1920 := by
  rw [Int.natAbs_natCast]
  by_cases h0 : n = 0
  · subst h0
    decide
  · exact (Nat.log2_lt h0).mpr (Nat.lt_of_lt_of_le h (Nat.le_trans (by decide : 10 ^ 10 ≤ 2 ^ 64) (Nat.pow_le_pow_right (by decide) (by decide))))
theorem num_len {n : Nat} (h : n < 10 ^ 10) : (Str.ofString (toString (n : Int))).length ≤ 10 := PySem.W.KT.len_num (by omega) (by omega)
end DL
/-! DL19: try: return e, except C as n: return r. -/
namespace DL
open PySem PySem.Spec PyProof.Rows L2
section
variable {X : Cx} {tb : List Addr} {W : WX'} {ds es : List Sl} {d : PyData} {e r : Expr} {rp rp2 pos pos' np p pT pv : Pos} {x n y : Str} {C : Addr} {c : Value} {i : Nat}
def tbTry (X : Cx) (e : Expr) (W : WX') : TS := fun D σ H => ∀ (pn : List (Addr × Obj)) (xe : Value → Shared → Prop), Takes (X.tr pn xe) W → PassesOwn (model X.prog X.w) X.A X.env xe → ∃ t, PE (X.tr pn xe) e t ∧ t σ H D.rt
def tsTry (X : Cx) (r : Expr) (a : Addr) (cls : Value) (dd : Option Addr) : TS := fun D σ H => ∀ (oe : Obj) (pn : List (Addr × Obj)), Zc cls dd oe → (∃ vs, oe.data = .fields vs) → ∃ t, PE (X.suite a ((a, oe) :: pn)) r t ∧ t σ H D.rt
theorem ps_tryRet (tk : Takes X W) (hs : X.stack = X.env :: X.outer) (hf : X.env.frame = some X.env.locals) (hN : X.N.Nodup) (hi : X.N[i]? = some n) (hln : X.env.kindOf n = some .local) (hc : Names X x c) :
    PS X (.Try [.Return (some e) rp] [.ExceptHandler (some (.Name x np)) (some n) [.Return (some r) rp2] pos'] [] [] pos) (fun D σ H => tbTry X e (wAs X.K c i (tsTry X r) W D) D σ H) :=
  ps_try_as hs hf hN hi hln hc tk (fun W' pn xe tk' pa => ⟨fun pins s σ H D I h => by
    obtain ⟨t, p1, q⟩ := h pn xe tk' pa
    exact (pss_one (ps_ret p1)).run pins s σ H D I q⟩) fun a oe cls dd pn hz hv => ⟨fun pins s σ H D I h => by
    obtain ⟨t, p1, q⟩ := h oe pn hz hv
    exact (pss_one (ps_ret p1)).run pins s σ H D I q⟩
/-- it hands back -/
theorem sd_try_ok (i : Nat) (tk : Takes X W) (hN : X.N.Nodup) (hc : Names X x c) (h : ∀ (pn : List (Addr × Obj)) (xe : Value → Shared → Prop), PEd (X.tr pn xe) tb e ds d) (hi : X.N[i]? = some n := by rfl) (hln : X.env.kindOf n = some .local := by rfl) (hs : X.stack = X.env :: X.outer := by rfl) (hf : X.env.frame = some X.env.locals := by rfl) :
    PSd X tb W (.Try [.Return (some e) rp] [.ExceptHandler (some (.Name x np)) (some n) [.Return (some r) rp2] pos'] [] [] pos) ds (.rt d) :=
  ⟨_, ps_tryRet tk hs hf hN hi hln hc, fun Hd0 H0 Hd H σ D S z => fun pn xe _ _ => by
    obtain ⟨t, p1, q⟩ := h pn xe
    exact ⟨t, p1, q Hd H σ S.env _ fun v Hd' H' g dv => z v Hd' H' (S.gr.trans g) (S.env.up g).tb dv⟩⟩
/-- it raises, and is caught -/
theorem sd_try_ex (i : Nat) {ce : Value} (tk : Takes X W) (hN : X.N.Nodup) (hc : Names X x c) (h : ∀ (W' : WX') (pn : List (Addr × Obj)) (xe : Value → Shared → Prop), Takes (X.tr pn xe) W' → PXd (X.tr pn xe) tb W' e ds ce) (hm : PySem.W.exmOne X.K ce c = some true)
    (hr : ∀ (a : Addr) (oe : Obj) (pn : List (Addr × Obj)), Zc ce none oe → (∃ vs, oe.data = .fields vs) → PEd (X.suite a ((a, oe) :: pn)) tb r (ds.set i (.val (.ref a))) d) (hi : X.N[i]? = some n := by rfl) (hln : X.env.kindOf n = some .local := by rfl) (hs : X.stack = X.env :: X.outer := by rfl) (hf : X.env.frame = some X.env.locals := by rfl) :
    PSd X tb W (.Try [.Return (some e) rp] [.ExceptHandler (some (.Name x np)) (some n) [.Return (some r) rp2] pos'] [] [] pos) ds (.rt d) :=
  ⟨_, ps_tryRet tk hs hf hN hi hln hc, fun Hd0 H0 Hd H σ D S z => fun pn xe tk' _ => by
    obtain ⟨t, p1, q⟩ := h _ pn xe tk'
    refine ⟨t, p1, q Hd H σ S.env _ fun Hd1 H1 g ht => ⟨true, hm, fun _ a ha => fun oe pn2 hz hv => ?_, fun z => nomatch z⟩⟩
    obtain ⟨t2, p2, q2⟩ := hr a oe pn2 hz hv
    refine ⟨t2, p2, q2 Hd1 H1 _ ((S.env.up g).set (s := .val (.ref a)) rfl fun _ z => nomatch z) _ fun v Hd2 H2 g2 dv => z v Hd2 H2 ((S.gr.trans g).trans g2) (((S.env.up g).up g2).tb) dv⟩⟩
/-- isinstance(e, T): e the exception that the suite holds -/
theorem ed_isE {a D : Addr} {oe : Obj} {pn : List (Addr × Obj)} {b : Bool} {v : V} {cv : Value} {T : Str} (i : Nat) (E : ExcC X.K D) (hz : Zc (.ref D) none oe) (hf : ∃ vs, oe.data = .fields vs) (hk : PySem.W.kitOne X.K (.ref D) cv = some b) (hv : ∀ u, RelV v u → u = cv)
    (hT : ∃ t, PE (X.suite a ((a, oe) :: pn)) (.Name T pT) t ∧ t = tC v) (hm : X.mg "isinstance" = none) (hd : ds[i]? = some (.val (.ref a)) := by rfl) (hN : X.N[i]? = some x := by rfl) (hvis : visB X.env.scope x = true := by rfl) (h1 : (x == ("__debug__" : Str)) = false := by decide) (h2 : (x == ("__classdict__" : Str)) = false := by decide)
    (hg : Gl X "isinstance" := by rfl) (hi : bootBuiltins "isinstance" = some (.builtin "isinstance") := by decide +kernel)
    (hs : starEach [.Name x pv, .Name T pT] X.env = (false, eval (.Name x pv) X.env) :: starEach [.Name T pT] X.env := by rfl) (hs2 : starEach [.Name T pT] X.env = (false, eval (.Name T pT) X.env) :: starEach [] X.env := by rfl) (hpl : (backTo pos (starEach [.Name T pT] X.env)).any (·.1) = false := by rfl) :
    PEd (X.suite a ((a, oe) :: pn)) tb (.Call (.Name "isinstance" p) [.Name x pv, .Name T pT] [] pos) ds (.bool b) := by
  obtain ⟨t, pT', rfl⟩ := hT
  refine ⟨_, pe_callB (X := X.suite a ((a, oe) :: pn)) (call_isE E hz hf) hg hm hi (pa_cons (pe_var (X := X.suite a ((a, oe) :: pn)) hN (visB_ok hvis) h1 h2) (pa_cons pT' pa_nil hs2) hs) (by decide) (by decide) hs hpl, fun Hd H σ E' Q z => ?_⟩
  obtain ⟨o, e1, e2⟩ := E'.sl i _ hd
  cases o with
  | none => exact e2.elim
  | some w =>
    have ew : w = .ref a := e2
    subst ew
    exact ⟨_, e1, v, cv, b, rfl, hv, hk, z _ Hd H (Gr.refl E'.dh) (.bl b)⟩
end
end DL
/-! DL20: x.extend(a tuple), x one's own; a text in a tuple of texts. -/
namespace DL
open PySem PySem.Spec PyProof.Rows L2
section
variable {X : Cx} {tb : List Addr} {W : WX'} {ds es : List Sl} {d e f : PyData} {a b : Expr} {pos p : Pos} {K : PySem.W.Frag} {x : Str} {apos : Pos}
theorem extend_tup (l : Addr) (items : Array Value) (n : Nat) (b : Addr) (items2 : Array Value) (n2 : Nat) (od : Option Addr) (osl : Array (Option Value)) (hs0 : ¬(!items.isEmpty && Builtin.List.listTooLong (items.size + items2.size)) = true) (hs1 : items.size ≤ sizeLine) (hs2 : items.size + items2.size ≤ sizeLine + 1) :
    Meets (Builtin.«list.extend» ⟨[.ref l, .ref b], []⟩) (fun _ R s => s.heap.get? l = some { cls := .type "list", dict := none, data := .seq items n, slots := #[] } ∧ s.heap.get? b = some { cls := .type "tuple", dict := od, data := .seq items2 n2, slots := osl } ∧ R (.ok (.ret Value.none)) { s with heap := s.heap.update l (Obj.mapSeq fun x => x ++ items2), toks := s.toks }) :=
  .of_wp fun prog w A R s h => by
    obtain ⟨hp, g, d, tk, os⟩ := s
    obtain ⟨hl, hb, h⟩ := h
    have f1 := PySem.AutoSeq1.idx_int
    have f2 := PySem.AutoSeq1.sub_tuple_tuple
    have f3 := PySem.AutoSeq1.sub_list_list
    have f4 := PySem.AutoSeq1.sub_tuple_list
    have f5 := PySem.AutoSeq1.sub_list_tuple
    have hz' : (items ++ items2).size ≤ sizeLine + 1 := by
      rw [Array.size_append]
      exact hs2
    wp_walk using (wpAny_updateSeq hl rfl (hz := hs1) (_hz' := hz')), PySem.AutoSeq1.wpAny_loadPart' hl, PySem.AutoSeq1.wpAny_loadPart' hb
    exact ⟨_, rfl, h⟩
def rExtendT (K : PySem.W.Frag) : V → List V → Hp → VK → Prop := fun x vs H Q => ∃ l b xs zs, x = .ref l ∧ vs = [.ref b] ∧ H l = some (.lst xs) ∧ SqT K H b zs ∧ xs.length + zs.length ≤ sizeLine ∧ Q .non (upd H l (.lst (xs ++ zs)))
theorem mt_extendT : MtM X "list.extend" (rExtendT X.K) := by
  intro pins s σ H x vs v us Q I rx rv h
  obtain ⟨l, b, xs, zs, rfl, rfl, hH, hB, hz, q⟩ := h
  cases rx
  obtain ⟨u, rfl, ru⟩ := rv.one
  cases ru
  obtain ⟨z, its, n, r, hl, e⟩ := I.lstM hH
  obtain ⟨its2, r2, ⟨⟨oc, od, odt, osl⟩, e2, hc2, n2, hd2⟩, hl2⟩ := I.tuple hB
  have len2 := r2.length
  dsimp only at hc2 hd2
  subst hc2 hd2
  have hsz : its.toArray.size + its2.toArray.size ≤ sizeLine := by rw [List.size_toArray, List.size_toArray]; omega
  have hlong : ¬ (!its.toArray.isEmpty && Builtin.List.listTooLong (its.toArray.size + its2.toArray.size)) = true := by
    rw [notLongL hsz, Bool.and_false]
    exact Bool.false_ne_true
  refine call_meets PySem.F.slot_list_extend ⟨_, e, rfl⟩ PySem.F.entry_list_extend (PySem.F.args_list_extend_2 _ _)
    (extend_tup l its.toArray n b its2.toArray n2 od osl hlong (by rw [List.size_toArray]; omega) (by omega)) ⟨e, e2, ?_⟩
  refine ⟨.non, _, I.lset (its' := its ++ its2) hH e (by simp) (r.append r2) ?_, rfl, q⟩
  rw [List.length_append]
  omega
theorem sd_extendT (i : Nat) {xs zs : List PyData} {p1 p2 : Pos} (h : PEd X tb a ds (.tuple zs)) (hz : xs.length + zs.length ≤ 1000000) (e : ds[i]? = some (.own xs) := by rfl) (hN : X.N[i]? = some x := by rfl) (hv : visB X.env.scope x = true := by rfl) (h1 : (x == ("__debug__" : Str)) = false := by decide)
    (h2 : (x == ("__classdict__" : Str)) = false := by decide) (hbase : attributeBase (.Name x p1) "extend" X.env (eval (.Name x p1) X.env) = eval (.Name x p1) X.env := by rfl)
    (hfew : ((backTo p2 (starEach [a] X.env)).all (fun x => !x.1) && (backToKw p2 (keywordEach [] X.env)).all (fun x => x.1.isSome)
      && decide ([a].length + ([] : List Keyword).length + (if ([] : List Keyword).isEmpty then 0 else 1) < 30)) = true := by rfl)
    (hline : (apos.endLine == p2.line) = true := by rfl) (hs : starEach [a] X.env = (false, eval a X.env) :: starEach [] X.env := by rfl) (hplain : (backTo p2 (starEach [] X.env)).any (·.1) = false := by rfl) (hsw : swapsWith (.Call (.Attribute (.Name x p1) "extend" apos) [a] [] p2) none pos.line X.env = pure false := by rfl) :
    PSd X tb W (.Expr (.Call (.Attribute (.Name x p1) "extend" apos) [a] [] p2) pos) ds (.nx (ds.set i (.own (xs ++ zs)))) := by
  obtain ⟨t, p, q⟩ := h
  refine ⟨_, ps_expr (pe_bm PySem.F.plainAttrs_list PySem.F.slot_list_extend PySem.F.type_list_extend mt_extendT (pe_var hN (visB_ok hv) h1 h2) (pa_cons p pa_nil hs) hbase hfew hline hs hplain) hsw, fun Hd0 H0 Hd H σ D S z => ?_⟩
  obtain ⟨l, vs, ea, hl, hd, hx⟩ := S.env.own e
  refine ⟨.ref l, ea, .inl ⟨rfl, vs, .inl (.inl hl)⟩, q Hd H σ S.env _ fun v Hd' H' g dv => ?_⟩
  have S' := S.up g
  obtain ⟨l2, vs2, ea2, hl2, hd2, hx2⟩ := S'.env.own e
  have el : l2 = l := V.ref.inj (Option.some.inj (Option.some.inj (ea2.symm.trans ea)))
  subst el
  cases dv with
  | @tup A ws _ k1 k2 =>
    refine ⟨l2, A, vs2, ws, rfl, rfl, hl2, st_sub g.h.s k1, by rw [dpa_len hx2, dpa_len k2]; exact Nat.le_trans hz (by decide), ?_⟩
    exact z σ Hd' _ (S'.putOwn e ea2 hl2 hd2 (dpa_app hx2 k2)) g.d
theorem rv_inStrT {neg : Bool} {z : Str} {ys : List Str} : RvD K tb (rIn K neg) (.str z) (.tuple (ys.map .str)) (.bool (if neg then !decide (z ∈ ys) else decide (z ∈ ys))) := fun Hd H x y D _ dx dy Q q => by
  cases dx
  cases dy with
  | @tup p vs _ k1 k2 =>
    have e := dpa_strs k2
    subst e
    refine ⟨p, _, rfl, .inr (st_sub D.s k1), rfl, strs_flat ys, ?_⟩
    rw [inV_strs]
    exact q _ Hd H (Gr.refl D) (.bl _)
theorem cmp_inStrT {z : Str} {ys : List Str} : CmpD X tb .In (.str z) (.tuple (ys.map .str)) (decide (z ∈ ys)) := ⟨⟨_, op_in_seq, rv_inStrT (neg := false)⟩⟩
end
end DL
/-! PT: the parts of a statement, in plain Lean. -/
namespace PT
open PySem PySem.Spec PyProof.Rows L2 DL LM RM
/-! ### equality -/
theorem eqv_s (a b : Str) : PyData.eqv (.str a) (.str b) = decide (a = b) := by
  show (a == b) = _
  by_cases h : a = b
  · rw [h, decide_eq_true rfl]; exact beq_self_eq_true b
  · rw [decide_eq_false h]; exact beq_eq_false_iff_ne.mpr h
theorem eqv_enc : ∀ s t : S, PyData.eqv (enc s) (enc t) = decide (s = t)
  | .nm v, .nm u => by
    show (PyData.eqv (.str "name") (.str "name") && (PyData.eqv (.str v) (.str u) && true)) = _
    rw [eqv_s, eqv_s]
    by_cases h : v = u <;> simp [h]
  | .nm v, .fls => by
    show (PyData.eqv (.str "name") (.str "false") && false) = _
    simp
  | .nm v, .bin o a b => by
    show (PyData.eqv (.str "name") (.str o.word) && (PyData.eqv (.str v) (enc a) && false)) = _
    simp
  | .fls, .nm u => by
    show (PyData.eqv (.str "false") (.str "name") && false) = _
    simp
  | .fls, .fls => by decide +kernel
  | .fls, .bin o a b => by
    show (PyData.eqv (.str "false") (.str o.word) && false) = _
    simp
  | .bin o a b, .nm u => by
    show (PyData.eqv (.str o.word) (.str "name") && (PyData.eqv (enc a) (.str u) && false)) = _
    simp
  | .bin o a b, .fls => by
    show (PyData.eqv (.str o.word) (.str "false") && false) = _
    simp
  | .bin o a b, .bin p c d => by
    show (PyData.eqv (.str o.word) (.str p.word) && (PyData.eqv (enc a) (enc c) && (PyData.eqv (enc b) (enc d) && true))) = _
    rw [eqv_s, eqv_enc a c, eqv_enc b d]
    have e : decide (o.word = p.word) = decide (o = p) := by cases o <;> cases p <;> decide +kernel
    rw [e]
    by_cases h1 : o = p <;> by_cases h2 : a = c <;> by_cases h3 : b = d <;> simp [h1, h2, h3]
theorem any_enc (s : S) : ∀ l : List S, ((l.map enc).any fun z => PyData.eqv z (enc s)) = decide (s ∈ l)
  | [] => rfl
  | t :: l => by
    show (PyData.eqv (enc t) (enc s) || ((l.map enc).any fun z => PyData.eqv z (enc s))) = _
    rw [eqv_enc, any_enc s l]
    by_cases h : t = s
    · simp [h]
    · have h2 : ¬ s = t := fun q => h q.symm
      simp [h, h2]
theorem eqvAll_encs : ∀ l : List S, PyData.eqvAll (l.map enc) (l.map enc) = true
  | [] => rfl
  | t :: l => by
    show (PyData.eqv (enc t) (enc t) && PyData.eqvAll (l.map enc) (l.map enc)) = true
    rw [eqv_enc, eqvAll_encs l, decide_eq_true rfl] <;> rfl
theorem eqv_encs (l : List S) : PyData.eqv (.list (l.map enc)) (.list (l.map enc)) = true := by
  show PyData.eqvAll (l.map enc) (l.map enc) = true
  exact eqvAll_encs l
/-! ### the parts, as the law goes -/
def lp : S → List S → List S
  | .nm v, f => if S.nm v ∈ f then f else f ++ [.nm v]
  | .fls, f => if S.fls ∈ f then f else f ++ [.fls]
  | .bin o a b, f => if S.bin o a b ∈ f then f else lp b (lp a f) ++ [.bin o a b]
/-! ### .. and as the program does: what was seen, what was found -/
def coll : S → List S × List S → List S × List S
  | .nm v, p => if S.nm v ∈ p.1 then p else (p.1 ++ [.nm v], p.2 ++ [.nm v])
  | .fls, p => if S.fls ∈ p.1 then p else (p.1 ++ [.fls], p.2 ++ [.fls])
  | .bin o a b, p => if S.bin o a b ∈ p.1 then p else
    ((coll b (coll a (p.1 ++ [.bin o a b], p.2))).1, (coll b (coll a (p.1 ++ [.bin o a b], p.2))).2 ++ [.bin o a b])
/-- only what is no deeper comes in -/
theorem coll_low : ∀ (s : S) (p : List S × List S) (x : S), dep s < dep x → (x ∈ (coll s p).1 ↔ x ∈ p.1) ∧ (x ∈ (coll s p).2 ↔ x ∈ p.2)
  | .nm v, p, x, h => by
    have ne : x ≠ .nm v := fun q => by rw [q] at h; exact absurd h (Nat.lt_irrefl _)
    unfold coll
    split
    · exact ⟨Iff.rfl, Iff.rfl⟩
    · simp [ne]
  | .fls, p, x, h => by
    have ne : x ≠ .fls := fun q => by rw [q] at h; exact absurd h (Nat.lt_irrefl _)
    unfold coll
    split
    · exact ⟨Iff.rfl, Iff.rfl⟩
    · simp [ne]
  | .bin o a b, p, x, h => by
    have ne : x ≠ .bin o a b := fun q => by rw [q] at h; exact absurd h (Nat.lt_irrefl _)
    have hd : max (dep a) (dep b) + 1 < dep x := h
    unfold coll
    split
    · exact ⟨Iff.rfl, Iff.rfl⟩
    · have i1 := coll_low a (p.1 ++ [.bin o a b], p.2) x (by omega)
      have i2 := coll_low b (coll a (p.1 ++ [.bin o a b], p.2)) x (by omega)
      refine ⟨?_, ?_⟩
      · show x ∈ (coll b _).1 ↔ _
        rw [i2.1, i1.1]
        simp [ne]
      · show x ∈ (coll b _).2 ++ [_] ↔ _
        rw [List.mem_append, i2.2, i1.2]
        simp [ne]
def Agree (n : Nat) (p : List S × List S) : Prop := ∀ x, dep x < n → (x ∈ p.1 ↔ x ∈ p.2)
theorem coll_lp : ∀ (s : S) (p : List S × List S) (n : Nat), dep s < n → Agree n p → (coll s p).2 = lp s p.2 ∧ Agree n (coll s p)
  | .nm v, p, n, h, g => by
    have e := g (.nm v) h
    unfold coll lp
    by_cases q : S.nm v ∈ p.1
    · rw [if_pos q, if_pos (e.mp q)]
      exact ⟨rfl, g⟩
    · rw [if_neg q, if_neg fun z => q (e.mpr z)]
      refine ⟨rfl, fun x hx => ?_⟩
      show x ∈ p.1 ++ [_] ↔ x ∈ p.2 ++ [_]
      rw [List.mem_append, List.mem_append, g x hx]
  | .fls, p, n, h, g => by
    have e := g .fls h
    unfold coll lp
    by_cases q : S.fls ∈ p.1
    · rw [if_pos q, if_pos (e.mp q)]
      exact ⟨rfl, g⟩
    · rw [if_neg q, if_neg fun z => q (e.mpr z)]
      refine ⟨rfl, fun x hx => ?_⟩
      show x ∈ p.1 ++ [_] ↔ x ∈ p.2 ++ [_]
      rw [List.mem_append, List.mem_append, g x hx]
  | .bin o a b, p, n, h, g => by
    have e := g (.bin o a b) h
    have hd : dep (.bin o a b) = max (dep a) (dep b) + 1 := rfl
    unfold coll lp
    by_cases q : S.bin o a b ∈ p.1
    · rw [if_pos q, if_pos (e.mp q)]
      exact ⟨rfl, g⟩
    · rw [if_neg q, if_neg fun z => q (e.mpr z)]
      have g0 : Agree (dep (.bin o a b)) (p.1 ++ [.bin o a b], p.2) := fun x hx => by
        have ne : x ≠ .bin o a b := fun z => by rw [z] at hx; exact absurd hx (Nat.lt_irrefl _)
        have := g x (by omega)
        show x ∈ p.1 ++ [_] ↔ x ∈ p.2
        rw [List.mem_append, this]
        simp [ne]
      obtain ⟨e1, g1⟩ := coll_lp a (p.1 ++ [.bin o a b], p.2) (dep (.bin o a b)) (by omega) g0
      obtain ⟨e2, g2⟩ := coll_lp b (coll a (p.1 ++ [.bin o a b], p.2)) (dep (.bin o a b)) (by omega) g1
      rw [e1] at e2
      refine ⟨by show (coll b _).2 ++ [_] = _; rw [e2], fun x hx => ?_⟩
      show x ∈ (coll b _).1 ↔ x ∈ (coll b _).2 ++ [_]
      by_cases hx2 : dep x < dep (.bin o a b)
      · have ne : x ≠ .bin o a b := fun z => by rw [z] at hx2; exact absurd hx2 (Nat.lt_irrefl _)
        rw [List.mem_append, g2 x hx2]
        simp [ne]
      · have i1 := coll_low a (p.1 ++ [.bin o a b], p.2) x (by omega)
        have i2 := coll_low b (coll a (p.1 ++ [.bin o a b], p.2)) x (by omega)
        rw [List.mem_append, i2.1, i2.2, i1.1, i1.2, List.mem_append, g x hx]
theorem coll_parts (s : S) : (coll s ([], [])).2 = lp s [] := (coll_lp s ([], []) (dep s + 1) (by omega) fun x _ => Iff.rfl).1
/-- how much comes -/
def sz : S → Nat
  | .nm _ => 1
  | .fls => 1
  | .bin _ a b => sz a + sz b + 1
theorem sz_u : ∀ s : S, sz s + 1 ≤ uN s
  | .nm v => by
    show 2 ≤ (wrL (.nm v)).length + 5
    omega
  | .fls => by decide
  | .bin o a b => by
    have h1 := sz_u a
    have h2 := sz_u b
    rw [uN_bin]
    show sz a + sz b + 1 + 1 ≤ _
    omega
theorem lp_len : ∀ (s : S) (f : List S), (lp s f).length ≤ f.length + sz s
  | .nm v, f => by
    unfold lp
    split
    · omega
    · rw [List.length_append]
      exact Nat.le_refl _
  | .fls, f => by
    unfold lp
    split
    · omega
    · rw [List.length_append]
      exact Nat.le_refl _
  | .bin o a b, f => by
    unfold lp
    split
    · omega
    · have h1 := lp_len a f
      have h2 := lp_len b (lp a f)
      rw [List.length_append]
      show _ + 1 ≤ _ + (sz a + sz b + 1)
      omega
theorem coll_len : ∀ (s : S) (p : List S × List S), (coll s p).1.length ≤ p.1.length + sz s ∧ (coll s p).2.length ≤ p.2.length + sz s
  | .nm v, p => by
    unfold coll
    split
    · exact ⟨Nat.le_add_right _ _, Nat.le_add_right _ _⟩
    · exact ⟨by rw [List.length_append]; exact Nat.le_refl _, by rw [List.length_append]; exact Nat.le_refl _⟩
  | .fls, p => by
    unfold coll
    split
    · exact ⟨Nat.le_add_right _ _, Nat.le_add_right _ _⟩
    · exact ⟨by rw [List.length_append]; exact Nat.le_refl _, by rw [List.length_append]; exact Nat.le_refl _⟩
  | .bin o a b, p => by
    unfold coll
    split
    · exact ⟨Nat.le_add_right _ _, Nat.le_add_right _ _⟩
    · have h1 := coll_len a (p.1 ++ [.bin o a b], p.2)
      have h2 := coll_len b (coll a (p.1 ++ [.bin o a b], p.2))
      have e : (p.1 ++ [S.bin o a b]).length = p.1.length + 1 := by rw [List.length_append] <;> rfl
      have h0 : (coll a (p.1 ++ [.bin o a b], p.2)).1.length ≤ p.1.length + 1 + sz a ∧ (coll a (p.1 ++ [.bin o a b], p.2)).2.length ≤ p.2.length + sz a := by
        refine ⟨?_, h1.2⟩
        rw [← e]
        exact h1.1
      refine ⟨?_, ?_⟩
      · show (coll b _).1.length ≤ p.1.length + (sz a + sz b + 1)
        omega
      · show ((coll b _).2 ++ [_]).length ≤ p.2.length + (sz a + sz b + 1)
        rw [List.length_append]
        show _ + 1 ≤ _
        omega
/-- all that stands in the lists is well made, no deeper than n -/
def Good (n : Nat) (l : List S) : Prop := ∀ x ∈ l, Ok x ∧ dep x ≤ n
theorem Good.app {n : Nat} {l : List S} (h : Good n l) {s : S} (h1 : Ok s) (h2 : dep s ≤ n) : Good n (l ++ [s]) := fun x hx => by
  rcases List.mem_append.mp hx with hx | hx
  · exact h x hx
  · rw [List.mem_singleton.mp hx]
    exact ⟨h1, h2⟩
theorem lp_good {n : Nat} : ∀ (s : S) (f : List S), Ok s → dep s ≤ n → Good n f → Good n (lp s f)
  | .nm v, f, h1, h2, h3 => by
    unfold lp
    split
    · exact h3
    · exact h3.app h1 h2
  | .fls, f, h1, h2, h3 => by
    unfold lp
    split
    · exact h3
    · exact h3.app h1 h2
  | .bin o a b, f, h1, h2, h3 => by
    have hd : max (dep a) (dep b) + 1 ≤ n := h2
    unfold lp
    split
    · exact h3
    · exact (lp_good b _ h1.2 (by omega) (lp_good a f h1.1 (by omega) h3)).app h1 h2
theorem coll_good {n : Nat} : ∀ (s : S) (p : List S × List S), Ok s → dep s ≤ n → Good n p.1 → Good n p.2 → Good n (coll s p).1 ∧ Good n (coll s p).2
  | .nm v, p, h1, h2, h3, h4 => by
    unfold coll
    split
    · exact ⟨h3, h4⟩
    · exact ⟨h3.app h1 h2, h4.app h1 h2⟩
  | .fls, p, h1, h2, h3, h4 => by
    unfold coll
    split
    · exact ⟨h3, h4⟩
    · exact ⟨h3.app h1 h2, h4.app h1 h2⟩
  | .bin o a b, p, h1, h2, h3, h4 => by
    have hd : max (dep a) (dep b) + 1 ≤ n := h2
    unfold coll
    split
    · exact ⟨h3, h4⟩
    · obtain ⟨i1, i2⟩ := coll_good a (p.1 ++ [.bin o a b], p.2) h1.1 (by omega) (h3.app h1 h2) h4
      obtain ⟨j1, j2⟩ := coll_good b (coll a (p.1 ++ [.bin o a b], p.2)) h1.2 (by omega) i1 i2
      exact ⟨j1, j2.app h1 h2⟩
theorem deps_le {n : Nat} : ∀ {l : List S}, Good n l → deps l ≤ n
  | [], _ => Nat.zero_le _
  | s :: r, h => by
    have h1 := (h s List.mem_cons_self).2
    have h2 : deps r ≤ n := deps_le (fun x hx => h x (List.mem_cons_of_mem _ hx))
    show max (dep s) (deps r) ≤ n
    omega
theorem Good.shaped {n : Nat} {l : List S} (h : Good n l) (hn : n ≤ 60) : SeqAt.shaped (.list (l.map enc)) = true := encs_shaped (fun s hs => (h s hs).1) (Nat.le_trans (deps_le h) (by omega))
/-! ### the beginning of a statement: words along the first parts -/
def spW : S → List Str
  | .bin o a _ => o.word :: spW a
  | _ => []
def spE : S → S
  | .bin _ a _ => spE a
  | s => s
def tailW : S → List Str
  | .nm v => ["name", v]
  | .fls => ["false"]
  | .bin _ _ _ => []
def begW (s : S) : List Str := spW s ++ tailW (spE s)
def begT (s : S) : Str := Txt.join " " (begW s)
def nthA : S → Nat → S
  | s, 0 => s
  | .bin _ a _, n + 1 => nthA a n
  | s, _ + 1 => s
theorem spW_len : ∀ s : S, (spW s).length < dep s
  | .nm _ => Nat.zero_lt_one
  | .fls => Nat.zero_lt_one
  | .bin o a b => by
    have := spW_len a
    show (spW a).length + 1 < max (dep a) (dep b) + 1
    omega
theorem nthA_end : ∀ s : S, nthA s (spW s).length = spE s
  | .nm _ => rfl
  | .fls => rfl
  | .bin o a b => nthA_end a
theorem nthA_ok : ∀ (s : S) (n : Nat), Ok s → Ok (nthA s n)
  | s, 0, h => by cases s <;> exact h
  | .nm _, n + 1, h => h
  | .fls, n + 1, h => h
  | .bin o a b, n + 1, h => nthA_ok a n h.1
theorem nthA_at : ∀ (s : S) (i : Nat), i < (spW s).length → ∃ o a b, nthA s i = .bin o a b ∧ nthA s (i + 1) = a ∧ (spW s)[i]? = some o.word
  | .nm _, i, h => absurd h (Nat.not_lt_zero _)
  | .fls, i, h => absurd h (Nat.not_lt_zero _)
  | .bin o a b, 0, _ => ⟨o, a, b, rfl, by show nthA a 0 = a; cases a <;> rfl, rfl⟩
  | .bin o a b, i + 1, h => by
    have h' : i + 1 < (spW a).length + 1 := h
    obtain ⟨p, c, d, e1, e2, e3⟩ := nthA_at a i (by omega)
    exact ⟨p, c, d, e1, e2, e3⟩
theorem spE_no : ∀ s : S, (∃ v, spE s = .nm v) ∨ spE s = .fls
  | .nm v => .inl ⟨v, rfl⟩
  | .fls => .inr rfl
  | .bin _ a _ => spE_no a
theorem word_len (o : Op) : o.word.length ≤ 8 := by cases o <;> decide +kernel
theorem spW_small : ∀ s : S, ∀ w ∈ spW s, w.length ≤ 8
  | .nm _, w, h => by cases h
  | .fls, w, h => by cases h
  | .bin o a b, w, h => by
    rcases List.mem_cons.mp h with rfl | h
    · exact word_len o
    · exact spW_small a w h
theorem spE_ok : ∀ s : S, Ok s → Ok (spE s)
  | .nm _, h => h
  | .fls, h => h
  | .bin _ a _, h => spE_ok a h.1
theorem begW_small {s : S} (h : Ok s) : ∀ w ∈ begW s, w.length ≤ 8 := fun w hw => by
  rcases List.mem_append.mp hw with hw | hw
  · exact spW_small s w hw
  · have ho := spE_ok s h
    rcases spE_no s with ⟨v, e⟩ | e
    · rw [e] at hw ho
      rcases List.mem_cons.mp hw with rfl | hw
      · decide +kernel
      · rw [List.mem_singleton.mp hw]
        exact ho.2.1
    · rw [e] at hw
      rw [List.mem_singleton.mp hw]
      decide +kernel
theorem begW_len (s : S) : (begW s).length ≤ dep s + 2 := by
  have h := spW_len s
  unfold begW
  rw [List.length_append]
  rcases spE_no s with ⟨v, e⟩ | e
  · rw [e]
    show _ + 2 ≤ _
    omega
  · rw [e]
    show _ + 1 ≤ _
    omega
theorem sum_small : ∀ l : List Str, (∀ w ∈ l, w.length ≤ 8) → (l.map (·.length)).sum ≤ 8 * l.length
  | [], _ => Nat.le_refl _
  | w :: r, h => by
    have h1 := h w List.mem_cons_self
    have h2 := sum_small r fun x hx => h x (List.mem_cons_of_mem _ hx)
    rw [List.map_cons, List.sum_cons, List.length_cons]
    omega
end PT
/-! DW: a shelf of rows by key, and a list of what was found, in the heap. -/
namespace PT
open PySem PySem.Spec PyProof.Rows L2 DL LM RM
/-- the row of a key -/
def rowOf (seen : List S) (k : Str) : List S := seen.filter fun x => decide (begT x = k)
theorem mem_row {seen : List S} {s : S} : s ∈ rowOf seen (begT s) ↔ s ∈ seen := by
  unfold rowOf
  rw [List.mem_filter]
  simp
theorem row_app (seen : List S) (s : S) (k : Str) : rowOf (seen ++ [s]) k = if k = begT s then rowOf seen k ++ [s] else rowOf seen k := by
  unfold rowOf
  rw [List.filter_append]
  by_cases h : k = begT s
  · rw [if_pos h, h]
    simp
  · rw [if_neg h]
    have h2 : ¬ begT s = k := fun q => h q.symm
    simp [h2]
structure Rows (K : PySem.W.Frag) (H0 Hd H : Hp) (fo : Addr) (kvs : List (Key × V)) (seen : List S) : Prop where
  there : ∀ (k : Str) (v : V), valV kvs (Sum.inr k : Key) = some v → ∃ l vs, v = .ref l ∧ H l = some (.lst vs) ∧ Hd l = none ∧ l ≠ fo ∧ DpAll K Hd vs ((rowOf seen k).map enc) ∧ H0 l = none
  no : ∀ k : Str, valV kvs (Sum.inr k : Key) = none → rowOf seen k = []
  inj : ∀ (k1 k2 : Str) (l : Addr), valV kvs (Sum.inr k1 : Key) = some (.ref l) → valV kvs (Sum.inr k2 : Key) = some (.ref l) → k1 = k2
structure Wd (K : PySem.W.Frag) (tb : List Addr) (C sh r fo : Addr) (Hd0 H0 : Hp) (m : Nat) (Hd H : Hp) (seen found : List S) : Prop where
  gr : Gr Hd0 H0 Hd H
  tb : ∀ P ∈ tb, GxR.TabG H P
  ob : ∃ dx, H sh = some (.ins C dx [("rows", .ref r)])
  hfo : ∃ vs, H fo = some (.lst vs) ∧ DpAll K Hd vs (found.map enc)
  nfo : Hd fo = none
  nr : Hd r = none
  ffo : H0 fo = none
  fr : H0 r = none
  rows : ∃ kvs, H r = some (.dK kvs) ∧ kvs.length ≤ m ∧ Rows K H0 Hd H fo kvs seen
theorem Wd.dh {K : PySem.W.Frag} {tb : List Addr} {C sh r fo : Addr} {Hd0 H0 : Hp} {m : Nat} {Hd H : Hp} {seen found : List S} (h : Wd K tb C sh r fo Hd0 H0 m Hd H seen found) : DH Hd H := h.gr.h
/-- what a step may do -/
structure Ste (Hd H Hd' H' : Hp) : Prop where
  d : Sub Hd Hd'
  n : ∀ a, H' a = none → H a = none
theorem Ste.refl (Hd H : Hp) : Ste Hd H Hd H := ⟨Sub.refl _, fun _ h => h⟩
theorem Ste.trans {A a B b C c : Hp} (h : Ste A a B b) (k : Ste B b C c) : Ste A a C c := ⟨h.d.trans k.d, fun x e => h.n x (k.n x e)⟩
theorem Ste.of {Hd H Hd' H' : Hp} (g : Gr Hd H Hd' H') : Ste Hd H Hd' H' := ⟨g.d, g.e.n⟩
section
variable {K : PySem.W.Frag} {tb : List Addr} {C sh r fo : Addr} {Hd0 H0 : Hp} {m : Nat} {Hd H Hd' H' : Hp} {seen found : List S}
theorem Wd.up (h : Wd K tb C sh r fo Hd0 H0 m Hd H seen found) (g : Gr Hd H Hd' H') : Wd K tb C sh r fo Hd0 H0 m Hd' H' seen found := by
  obtain ⟨dx, h1⟩ := h.ob
  obtain ⟨vs, h2, h3⟩ := h.hfo
  obtain ⟨kvs, h4, h5, R⟩ := h.rows
  refine ⟨h.gr.trans g, fun P hp => g.e.t P (h.tb P hp), ⟨dx, g.e.k _ _ h1 (fun _ z => nomatch z)⟩, ⟨vs, g.e.k _ _ h2 (fun _ z => nomatch z), DpAll.up h3 g.d⟩, g.f _ h.nfo (by rw [h2]; exact fun z => nomatch z), g.f _ h.nr (by rw [h4]; exact fun z => nomatch z), h.ffo, h.fr, kvs, g.e.k _ _ h4 (fun _ z => nomatch z), h5, ⟨fun k v e => ?_, R.no, R.inj⟩⟩
  obtain ⟨l, us, e1, e2, e3, e4, e5, e6⟩ := R.there k v e
  exact ⟨l, us, e1, g.e.k _ _ e2 (fun _ z => nomatch z), g.f _ e3 (by rw [e2]; exact fun z => nomatch z), e4, DpAll.up e5 g.d, e6⟩
theorem Wd.more {n : Nat} (h : Wd K tb C sh r fo Hd0 H0 m Hd H seen found) (hn : m ≤ n) : Wd K tb C sh r fo Hd0 H0 n Hd H seen found :=
  ⟨h.gr, h.tb, h.ob, h.hfo, h.nfo, h.nr, h.ffo, h.fr, let ⟨kvs, h4, h5, R⟩ := h.rows; ⟨kvs, h4, Nat.le_trans h5 hn, R⟩⟩
theorem tab_upd {p : Addr} {o : HO} {P : Addr} (h : GxR.TabG H P) (hp : ∀ ps, H p ≠ some (.tbl ps)) : GxR.TabG (upd H p o) P := by
  obtain ⟨ps, e, t⟩ := h
  have n : P ≠ p := fun q => hp ps (by rw [← q]; exact e)
  exact ⟨ps, by rw [upd_ne n]; exact e, t⟩
theorem dh_upd {p : Addr} {o : HO} (h : DH Hd H) (hp : Hd p = none) : DH Hd (upd H p o) := ⟨fun b u e => by
  have n : b ≠ p := fun q => by rw [q, hp] at e; cases e
  rw [upd_ne n]
  exact h.s b u e, h.nt⟩
theorem gr_upd {Hd0 H0 Hd H : Hp} {p : Addr} {o : HO} (h : Gr Hd0 H0 Hd H) (h0 : H0 p = none) (hp : Hd p = none) : Gr Hd0 H0 Hd (upd H p o) where
  d := h.d
  h := dh_upd h.h hp
  e := ⟨fun a u e n => by
    rw [upd_ne (ne_of_none e h0)]
    exact h.e.k a u e n, fun a ⟨ps, e, t⟩ => by
    obtain ⟨qs, e1, t1⟩ := h.e.t a ⟨ps, e, t⟩
    exact ⟨qs, by rw [upd_ne (ne_of_none e h0)]; exact e1, t1⟩, fun a e => h.e.n a (by
    by_cases q : a = p
    · rw [q, upd_same] at e
      cases e
    · rw [upd_ne q] at e
      exact e)⟩
  f := h.f
theorem n_upd {p : Addr} {o : HO} {a : Addr} (h : upd H p o a = none) : H a = none := by
  by_cases q : a = p
  · rw [q, upd_same] at h
    cases h
  · rw [upd_ne q] at h
    exact h
/-- a new row of nothing -/
theorem Wd.addRow (h : Wd K tb C sh r fo Hd0 H0 m Hd H seen found) {p : Addr} {kvs : List (Key × V)} {k : Str} (hp : H p = some (.lst [])) (hd : Hd p = none) (h0 : H0 p = none) (hf : p ≠ fo) (hnew : ∀ j, valV kvs (Sum.inr j : Key) ≠ some (.ref p)) (hr : H r = some (.dK kvs)) (hk : valV kvs (Sum.inr k : Key) = none) :
    Wd K tb C sh r fo Hd0 H0 (m + 1) Hd (upd H r (.dK (putK kvs (Sum.inr k : Key) (.ref p)))) seen found := by
  obtain ⟨dx, h1⟩ := h.ob
  obtain ⟨vs, h2, h3⟩ := h.hfo
  obtain ⟨kvs', h4, h5, R⟩ := h.rows
  have ek : kvs' = kvs := by
    rw [h4] at hr
    cases hr
    rfl
  subst ek
  have ne : ∀ {a : Addr} {xs : List V}, H a = some (.lst xs) → a ≠ r := fun {a xs} e q => by rw [q, h4] at e; cases e
  have nsh : sh ≠ r := fun q => by rw [q, h4] at h1; cases h1
  refine ⟨gr_upd h.gr h.fr h.nr, fun P hP => tab_upd (h.tb P hP) (fun ps z => by rw [h4] at z; cases z), ⟨dx, by rw [upd_ne nsh]; exact h1⟩, ⟨vs, by rw [upd_ne (ne h2)]; exact h2, h3⟩, h.nfo, h.nr, h.ffo, h.fr, _, upd_same, Nat.le_trans (length_putK _ _ _) (by omega), ⟨fun j v e => ?_, fun j e => ?_, fun j1 j2 l e1 e2 => ?_⟩⟩
  · rw [valV_put] at e
    split at e
    · rename_i q
      have q : j = k := Sum.inr.inj q
      cases e
      refine ⟨p, [], rfl, by rw [upd_ne (ne hp)]; exact hp, hd, hf, ?_, h0⟩
      rw [q, R.no k hk]
      exact .nil
    · obtain ⟨l, us, e1, e2, e3, e4, e5, e6⟩ := R.there j v e
      exact ⟨l, us, e1, by rw [upd_ne (ne e2)]; exact e2, e3, e4, e5, e6⟩
  · rw [valV_put] at e
    split at e
    · cases e
    · exact R.no j e
  · rw [valV_put] at e1 e2
    split at e1
    · rename_i q1
      split at e2
      · rename_i q2
        exact (Sum.inr.inj q1).trans (Sum.inr.inj q2).symm
      · cases e1
        exact absurd e2 (hnew j2)
    · split at e2
      · cases e2
        exact absurd e1 (hnew j1)
      · exact R.inj j1 j2 l e1 e2
/-- one more in its row -/
theorem Wd.push (h : Wd K tb C sh r fo Hd0 H0 m Hd H seen found) {kvs : List (Key × V)} {l : Addr} {vs : List V} {s : S} {v : V} (hr : H r = some (.dK kvs)) (hk : valV kvs (Sum.inr (begT s) : Key) = some (.ref l)) (hl : H l = some (.lst vs)) (hv : Dp K Hd v (enc s)) :
    Wd K tb C sh r fo Hd0 H0 m Hd (upd H l (.lst (vs ++ [v]))) (seen ++ [s]) found := by
  obtain ⟨dx, h1⟩ := h.ob
  obtain ⟨ws, h2, h3⟩ := h.hfo
  obtain ⟨kvs', h4, h5, R⟩ := h.rows
  have ek : kvs' = kvs := by
    rw [h4] at hr
    cases hr
    rfl
  subst ek
  obtain ⟨l', us, e1, e2, e3, e4, e5, e6⟩ := R.there _ _ hk
  cases e1
  have eu : us = vs := by
    rw [e2] at hl
    cases hl
    rfl
  subst eu
  have nr : r ≠ l := fun q => by rw [q, e2] at h4; cases h4
  have nsh : sh ≠ l := fun q => by rw [q, e2] at h1; cases h1
  refine ⟨gr_upd h.gr e6 e3, fun P hP => tab_upd (h.tb P hP) (fun ps z => by rw [e2] at z; cases z), ⟨dx, by rw [upd_ne nsh]; exact h1⟩, ⟨ws, by rw [upd_ne e4.symm]; exact h2, h3⟩, h.nfo, h.nr, h.ffo, h.fr, kvs', by rw [upd_ne nr]; exact h4, h5, ⟨fun j u e => ?_, fun j e => ?_, R.inj⟩⟩
  · obtain ⟨l2, us2, g1, g2, g3, g4, g5, g6⟩ := R.there j u e
    by_cases q : l2 = l
    · rw [g1, q] at e
      have ej := R.inj j _ l e hk
      refine ⟨l2, us ++ [v], g1, by rw [q, upd_same], g3, g4, ?_, g6⟩
      rw [row_app, if_pos ej, List.map_append, ej]
      exact dpa_app e5 (.cons hv .nil)
    · refine ⟨l2, us2, g1, by rw [upd_ne q]; exact g2, g3, g4, ?_, g6⟩
      have nj : ¬ j = begT s := fun z => by
        rw [z, hk] at e
        rw [g1] at e
        cases e
        exact q rfl
      rw [row_app, if_neg nj]
      exact g5
  · have nj : ¬ j = begT s := fun z => by
      rw [z, hk] at e
      cases e
    rw [row_app, if_neg nj]
    exact R.no j e
/-- one more found -/
theorem Wd.find (h : Wd K tb C sh r fo Hd0 H0 m Hd H seen found) {vs : List V} {s : S} {v : V} (hf : H fo = some (.lst vs)) (hv : Dp K Hd v (enc s)) :
    Wd K tb C sh r fo Hd0 H0 m Hd (upd H fo (.lst (vs ++ [v]))) seen (found ++ [s]) := by
  obtain ⟨dx, h1⟩ := h.ob
  obtain ⟨ws, h2, h3⟩ := h.hfo
  obtain ⟨kvs, h4, h5, R⟩ := h.rows
  have ew : ws = vs := by
    rw [h2] at hf
    cases hf
    rfl
  subst ew
  have nr : r ≠ fo := fun q => by rw [q, h2] at h4; cases h4
  have nsh : sh ≠ fo := fun q => by rw [q, h2] at h1; cases h1
  refine ⟨gr_upd h.gr h.ffo h.nfo, fun P hP => tab_upd (h.tb P hP) (fun ps z => by rw [h2] at z; cases z), ⟨dx, by rw [upd_ne nsh]; exact h1⟩, ⟨ws ++ [v], upd_same, ?_⟩, h.nfo, h.nr, h.ffo, h.fr, kvs, by rw [upd_ne nr]; exact h4, h5, ⟨fun j u e => ?_, R.no, R.inj⟩⟩
  · rw [List.map_append]
    exact dpa_app h3 (.cons hv .nil)
  · obtain ⟨l, us, g1, g2, g3, g4, g5, g6⟩ := R.there j u e
    exact ⟨l, us, g1, by rw [upd_ne g4]; exact g2, g3, g4, g5, g6⟩
end
end PT
namespace PT
open PySem PySem.Spec PyProof.Rows L2 DL LM RM
def halvesS : S → List S
  | .bin _ a b => [a, b]
  | _ => []
def szs (l : List S) : Nat := (l.map sz).sum
def foldC (l : List S) (p : List S × List S) : List S × List S := l.foldl (fun p h => coll h p) p
theorem coll_in {s : S} {p : List S × List S} (h : s ∈ p.1) : coll s p = p := by cases s <;> (unfold coll; exact if_pos h)
theorem coll_out {s : S} {p : List S × List S} (h : s ∉ p.1) : coll s p = ((foldC (halvesS s) (p.1 ++ [s], p.2)).1, (foldC (halvesS s) (p.1 ++ [s], p.2)).2 ++ [s]) := by cases s <;> (unfold coll; exact if_neg h)
theorem szs_halves (s : S) : szs (halvesS s) + 1 = sz s := by
  cases s with
  | nm v => rfl
  | fls => rfl
  | bin o a b =>
    show (sz a + (sz b + 0)) + 1 = sz a + sz b + 1
    omega
theorem szs_snoc (l : List S) (h : S) : szs (l ++ [h]) = szs l + sz h := by
  unfold szs
  rw [List.map_append, List.sum_append]
  show _ + (sz h + 0) = _
  omega
theorem szs_app (l k : List S) : szs (l ++ k) = szs l + szs k := by
  unfold szs
  rw [List.map_append, List.sum_append]
theorem take_snoc {l : List S} {i : Nat} {h : S} (e : l[i]? = some h) : l.take (i + 1) = l.take i ++ [h] := by rw [List.take_add_one, e] <;> rfl
theorem szs_take (l : List S) (i : Nat) : szs (l.take i) ≤ szs l := by
  have e := szs_app (l.take i) (l.drop i)
  rw [List.take_append_drop] at e
  omega
theorem foldC_snoc (l : List S) (h : S) (p : List S × List S) : foldC (l ++ [h]) p = coll h (foldC l p) := by
  unfold foldC
  rw [List.foldl_append] <;> rfl
theorem foldC_len : ∀ (l : List S) (p : List S × List S), (foldC l p).1.length ≤ p.1.length + szs l ∧ (foldC l p).2.length ≤ p.2.length + szs l
  | [], p => ⟨Nat.le_add_right _ _, Nat.le_add_right _ _⟩
  | h :: l, p => by
    have h1 := coll_len h p
    have h2 := foldC_len l (coll h p)
    have e : szs (h :: l) = sz h + szs l := by
      unfold szs
      rw [List.map_cons, List.sum_cons]
    rw [e]
    show (foldC l (coll h p)).1.length ≤ _ ∧ (foldC l (coll h p)).2.length ≤ _
    omega
theorem foldC_good {n : Nat} : ∀ (l : List S) (p : List S × List S), (∀ x ∈ l, Ok x ∧ dep x ≤ n) → Good n p.1 → Good n p.2 → Good n (foldC l p).1 ∧ Good n (foldC l p).2
  | [], p, _, h1, h2 => ⟨h1, h2⟩
  | h :: l, p, hl, h1, h2 => by
    obtain ⟨a, b⟩ := hl h List.mem_cons_self
    obtain ⟨g1, g2⟩ := coll_good h p a b h1 h2
    exact foldC_good l (coll h p) (fun x hx => hl x (List.mem_cons_of_mem _ hx)) g1 g2
theorem halves_ok {s h : S} {n : Nat} (hs : h ∈ halvesS s) (hok : Ok s) (hd : dep s ≤ n + 1) : Ok h ∧ dep h ≤ n := by
  cases s with
  | nm v => cases hs
  | fls => cases hs
  | bin o a b =>
    have hd : max (dep a) (dep b) + 1 ≤ n + 1 := hd
    rcases List.mem_cons.mp hs with rfl | hs
    · exact ⟨hok.1, by omega⟩
    · rw [List.mem_singleton.mp hs]
      exact ⟨hok.2, by omega⟩
end PT
/-! DL21: one's own list looked at; reversed; got from a call. -/
namespace DL
open PySem PySem.Spec PyProof.Rows L2
section
variable {K : PySem.W.Frag} {tb : List Addr} {Hd0 H0 Hd H : Hp} {σ : L2.St} {ds : List Sl}
theorem Env.freeze (S : Env K tb Hd H σ ds) {i : Nat} {xs : List PyData} (e : ds[i]? = some (.own xs)) : ∃ (a : Addr) (vs : List V), σ[i]? = some (some (.ref a)) ∧ H a = some (.lst vs) ∧ Hd a = none ∧ Env K tb (upd Hd a (.lst vs)) H σ (ds.set i (.dat (.list xs))) := by
  obtain ⟨a, vs, ea, hl, hd, hx⟩ := S.own e
  have il : i < ds.length := (List.getElem?_eq_some_iff.mp e).1
  have s : Sub Hd (upd Hd a (.lst vs)) := fun b o q => by rw [upd_ne (ne_of_none q hd)]; exact q
  have D : DH (upd Hd a (.lst vs)) H := ⟨fun b o q => by
      by_cases z : b = a
      · rw [z, upd_same] at q
        rw [z, hl, q]
      · rw [upd_ne z] at q
        exact S.dh.s b o q, fun b ps q => by
      by_cases z : b = a
      · rw [z, upd_same] at q
        cases q
      · rw [upd_ne z] at q
        exact S.dh.nt b ps q⟩
  refine ⟨a, vs, ea, hl, hd, by rw [List.length_set]; exact S.len, D, S.tb, fun j t q => ?_, fun j k zs ws' b n e1 e2 e3 e4 => ?_⟩
  · by_cases q1 : i = j
    · subst q1
      rw [List.getElem?_set_self il] at q
      cases q
      exact ⟨_, ea, .lst (.inl (.inl upd_same)) (DpAll.up hx s)⟩
    · rw [List.getElem?_set_ne q1] at q
      obtain ⟨oo, k1, k2⟩ := S.sl j t q
      refine ⟨oo, k1, ?_⟩
      cases t with
      | no => cases oo <;> trivial
      | dat d =>
        cases oo with
        | none => exact k2.elim
        | some v => exact Dp.up k2 s
      | val w => cases oo <;> exact k2
      | hp φ st =>
        cases oo with
        | none => exact k2.elim
        | some v => exact st v _ _ s k2
      | own zs =>
        cases oo with
        | none => exact k2.elim
        | some v =>
          obtain ⟨b, us, f1, f2, f3, f4⟩ := k2
          have nb : b ≠ a := fun z => by
            rw [f1, z] at k1
            exact S.ap i j xs zs a q1 e q ea k1
          exact ⟨b, us, f1, f2, by rw [upd_ne nb]; exact f3, DpAll.up f4 s⟩
  · have n1 : i ≠ j := fun q => by
      subst q
      rw [List.getElem?_set_self il] at e1
      cases e1
    have n2 : i ≠ k := fun q => by
      subst q
      rw [List.getElem?_set_self il] at e2
      cases e2
    rw [List.getElem?_set_ne n1] at e1
    rw [List.getElem?_set_ne n2] at e2
    exact S.ap j k zs ws' b n e1 e2 e3 e4
def without (H : Hp) (a : Addr) : Hp := fun b => if b = a then none else H b
theorem Gr.unpeek {Hd' H' : Hp} {a : Addr} {o : HO} (hd : Hd a = none) (g : Gr (upd Hd a o) H Hd' H') : Gr Hd H (without Hd' a) H' where
  d := fun b u e => by
    have n := ne_of_none e hd
    show (if b = a then none else Hd' b) = some u
    rw [if_neg n]
    exact g.d b u (by rw [upd_ne n]; exact e)
  h := ⟨fun b u e => by
    have e : (if b = a then none else Hd' b) = some u := e
    split at e
    · cases e
    · exact g.h.s b u e, fun b ps e => by
    have e : (if b = a then none else Hd' b) = some (.tbl ps) := e
    split at e
    · cases e
    · exact g.h.nt b ps e⟩
  e := g.e
  f := fun b e n => by
    show (if b = a then none else Hd' b) = none
    by_cases q : b = a
    · rw [if_pos q]
    · rw [if_neg q]
      exact g.f b (by rw [upd_ne q]; exact e) n
theorem State.getOwn {Hd' H' : Hp} {fo : Addr} {ws : List V} {xs : List PyData} (S : State K tb Hd0 H0 Hd H σ ds) (i : Nat) (g : Gr Hd H Hd' H') (hf : H fo = none) (hn : Hd' fo = none) (hl : H' fo = some (.lst ws)) (hd : DpAll K Hd' ws xs) :
    State K tb Hd0 H0 Hd' H' (σ.set i (some (.ref fo))) (ds.set i (.own xs)) := by
  have E := S.env.up g
  have h00 : H0 fo = none := S.gr.e.n fo hf
  refine ⟨⟨by rw [List.length_set, List.length_set]; exact E.len, E.dh, E.tb, fun j t e => ?_, fun j k xs ys a n e1 e2 e3 e4 => ?_⟩, S.gr.trans g, fun j xs a e1 e2 => ?_⟩
  · by_cases qq : i = j
    · subst qq
      have hil : i < ds.length := by
        have := (List.getElem?_eq_some_iff.mp e).1
        rw [List.length_set] at this
        exact this
      rw [List.getElem?_set_self hil] at e
      cases e
      exact ⟨_, List.getElem?_set_self (by rw [E.len]; exact hil), fo, ws, rfl, hl, hn, hd⟩
    · rw [List.getElem?_set_ne qq] at e
      obtain ⟨oo, k1, k2⟩ := E.sl j t e
      exact ⟨oo, by rw [List.getElem?_set_ne qq]; exact k1, k2⟩
  · have fresh : ∀ (m : Nat) (zs : List PyData), i ≠ m → (ds.set i (.own xs))[m]? = some (.own zs) → (σ.set i (some (.ref fo)))[m]? = some (some (.ref fo)) → False := fun m zs hne f1 f2 => by
      rw [List.getElem?_set_ne hne] at f1 f2
      obtain ⟨b, vs, f3, f4, _, _⟩ := S.env.own f1
      rw [f2] at f3
      have eb : fo = b := V.ref.inj (Option.some.inj (Option.some.inj f3))
      rw [← eb, hf] at f4
      cases f4
    have fresh2 : ∀ (m : Nat) (zs : List PyData), i ≠ m → ds[m]? = some (.own zs) → σ[m]? = some (some (.ref fo)) → False := fun m zs hne f1 f2 => by
      obtain ⟨b, vs, f3, f4, _, _⟩ := S.env.own f1
      rw [f2] at f3
      have eb : fo = b := V.ref.inj (Option.some.inj (Option.some.inj f3))
      rw [← eb, hf] at f4
      cases f4
    have self : ∀ {t : Option V}, (σ.set i (some (V.ref fo)))[i]? = some t → t = some (.ref fo) := fun {t} f => by
      have hil : i < σ.length := by
        have := (List.getElem?_eq_some_iff.mp f).1
        rw [List.length_set] at this
        exact this
      rw [List.getElem?_set_self hil] at f
      exact (Option.some.inj f).symm
    by_cases q1 : i = j
    · subst q1
      have ea : a = fo := V.ref.inj (Option.some.inj (self e3))
      subst ea
      rw [List.getElem?_set_ne n] at e2 e4
      exact fresh2 k ys n e2 e4
    · by_cases q2 : i = k
      · subst q2
        have ea : a = fo := V.ref.inj (Option.some.inj (self e4))
        subst ea
        rw [List.getElem?_set_ne q1] at e1 e3
        exact fresh2 j _ q1 e1 e3
      · rw [List.getElem?_set_ne q1] at e1 e3
        rw [List.getElem?_set_ne q2] at e2 e4
        exact S.env.ap j k _ ys a n e1 e2 e3 e4
  · by_cases q1 : i = j
    · subst q1
      have hil : i < σ.length := by
        have := (List.getElem?_eq_some_iff.mp e2).1
        rw [List.length_set] at this
        exact this
      rw [List.getElem?_set_self hil] at e2
      have ea : fo = a := V.ref.inj (Option.some.inj (Option.some.inj e2))
      rw [← ea]
      exact h00
    · rw [List.getElem?_set_ne q1] at e1 e2
      exact S.fr j xs a e1 e2
end
/-- a def that hands back a new list, nobody else's -/
def spO (K : PySem.W.Frag) (tb : List Addr) (n : Nat) (R : List PyData → List PyData → Prop) : Sp := fun vs H Q _ => ∃ (Hd : Hp) (ds xs : List PyData), vs.length = n ∧ DH Hd H ∧ (∀ P ∈ tb, GxR.TabG H P) ∧ DpAll K Hd vs ds ∧ R ds xs ∧
  ∀ (fo : Addr) (ws : List V) (Hd' H' : Hp), Gr Hd H Hd' H' → (∀ P ∈ tb, GxR.TabG H' P) → H fo = none → Hd' fo = none → H' fo = some (.lst ws) → DpAll K Hd' ws xs → Q (.ref fo) H'
structure FnO (P : Program) (w : World) (K : PySem.W.Frag) (mg : Str → Option Value) (base : Heap) (tb : List Addr) (x : Str) (ps : List Str) (k : Nat) (R : List PyData → List PyData → Prop) : Prop where
  ex : ∃ (f : Addr) (fd : FuncData), FnOk P w K mg base CX0 k f fd ps (spO K tb ps.length R) ∧ mg x = some (.ref f) ∧ PySem.W.keepIn K (.ref f) = true ∧ Binds K fd ps []
section
variable {X : Cx} {tb : List Addr} {W : WX'} {ds es : List Sl} {d e f : PyData} {a b c : Expr} {pos pos' p p2 : Pos} {x y : Str} {apos : Pos} {args : List Expr} {fs : List PyData} {ps : List Str} {k : Nat}
/-- a test may look at one's own list -/
theorem td_peek (i : Nat) {xs : List PyData} {kk : Bool} (h : PTd X tb c (ds.set i (.dat (.list xs))) kk) (e : ds[i]? = some (.own xs) := by rfl) : PTd X tb c ds kk := by
  obtain ⟨t, p, q⟩ := h
  refine ⟨t, p, fun Hd H σ E Q z => ?_⟩
  obtain ⟨A, vs, ea, hl, hd, E2⟩ := E.freeze e
  exact q _ H σ E2 Q fun Hd' H' g => z _ H' (Gr.unpeek hd g)
/-- x.reverse(), x's list one's own -/
theorem sd_reverse (i : Nat) {xs : List PyData} {p1 : Pos} (e : ds[i]? = some (.own xs) := by rfl) (hN : X.N[i]? = some x := by rfl) (hv : visB X.env.scope x = true := by rfl) (h1 : (x == ("__debug__" : Str)) = false := by decide)
    (h2 : (x == ("__classdict__" : Str)) = false := by decide) (hbase : attributeBase (.Name x p1) "reverse" X.env (eval (.Name x p1) X.env) = eval (.Name x p1) X.env := by rfl)
    (hline : (apos.endLine == p2.line) = true := by rfl) (hsw : swapsWith (.Call (.Attribute (.Name x p1) "reverse" apos) [] [] p2) none pos.line X.env = pure false := by rfl) :
    PSd X tb W (.Expr (.Call (.Attribute (.Name x p1) "reverse" apos) [] [] p2) pos) ds (.nx (ds.set i (.own xs.reverse))) := by
  refine ⟨_, ps_expr (pe_bm0 PySem.F.plainAttrs_list PySem.F.slot_list_reverse PySem.F.type_list_reverse mt_reverse (pe_var hN (visB_ok hv) h1 h2) hbase hline) hsw, fun Hd0 H0 Hd H σ D S z => ?_⟩
  obtain ⟨l, vs, ea, hl, hd, hx⟩ := S.env.own e
  refine ⟨.ref l, ea, .inl ⟨rfl, vs, .inl (.inl hl)⟩, l, vs, rfl, rfl, hl, ?_⟩
  exact z σ Hd _ (S.putOwn e ea hl hd (dpa_rev hx)) (Sub.refl _)
/-- y = x(..), the list one's own from now on -/
theorem sd_setOwn (i : Nat) {R : List PyData → List PyData → Prop} {xs : List PyData} (G : FnO X.prog X.w X.K X.mg X.base tb x ps k R) (hr : Room k X.A) (ha : PAd X tb (a :: args) ds fs) (hR : R fs xs) (hN : X.N.Nodup) (hi : X.N[i]? = some y := by rfl) (hy : locB X.env.scope y = true := by rfl) (hl : fs.length = ps.length := by rfl) (hg : Gl X x := by rfl) (hdb : (x == ("__debug__" : Str)) = false := by decide)
    (he : starEach (a :: args) X.env = (false, eval a X.env) :: starEach args X.env := by rfl) (hpl : (backTo p2 (starEach args X.env)).any (·.1) = false := by rfl) (hs : swapsWith (.Call (.Name x p) (a :: args) [] p2) (some (.Name y pos')) pos.line X.env = pure false := by rfl)
    (hf : X.fn y = true ∨ X.env.scope.names.lookup y = some .local := by first | exact .inl rfl | exact .inr rfl) :
    PSd X tb W (.Assign [.Name y pos'] (.Call (.Name x p) (a :: args) [] p2) pos) ds (.nx (ds.set i (.own xs))) := by
  obtain ⟨fa, fd, F, hm, hk, hb⟩ := G.ex
  obtain ⟨t, p1, q1⟩ := ha
  refine ⟨_, ps_set hN hi (locB_ok hy) (pe_call F hr hg hm hk hb .nil (pass0 (X := X)) p1 hdb he hpl) hs hf, fun Hd0 H0 Hd H σ D S z => q1 Hd H σ S.env _ fun vs Hd1 H1 g dv => ?_⟩
  have S1 := S.up g
  refine ⟨Hd1, fs, xs, by rw [List.append_nil, dpa_len dv]; exact hl, g.h, S1.env.tb, by rw [List.append_nil]; exact dv, hR, fun fo ws Hd2 H2 g2 _ hf0 hn hl2 hd => ?_⟩
  exact z _ Hd2 H2 (S1.getOwn i g2 hf0 hn hl2 hd) (g.d.trans g2.d)
variable {a : Expr} {d : PyData}
/-- x.append(e), x's list one's own -/
theorem sd_appendB (i : Nat) {xs : List PyData} {p1 p2 : Pos} (h : PEd X tb a ds d) (hz : xs.length < 16000000) (e : ds[i]? = some (.own xs) := by rfl) (hN : X.N[i]? = some x := by rfl) (hv : visB X.env.scope x = true := by rfl) (h1 : (x == ("__debug__" : Str)) = false := by decide)
    (h2 : (x == ("__classdict__" : Str)) = false := by decide) (hbase : attributeBase (.Name x p1) "append" X.env (eval (.Name x p1) X.env) = eval (.Name x p1) X.env := by rfl)
    (hfew : ((backTo p2 (starEach [a] X.env)).all (fun x => !x.1) && (backToKw p2 (keywordEach [] X.env)).all (fun x => x.1.isSome)
      && decide ([a].length + ([] : List Keyword).length + (if ([] : List Keyword).isEmpty then 0 else 1) < 30)) = true := by rfl)
    (hline : (apos.endLine == p2.line) = true := by rfl) (hs : starEach [a] X.env = (false, eval a X.env) :: starEach [] X.env := by rfl) (hplain : (backTo p2 (starEach [] X.env)).any (·.1) = false := by rfl) (hsw : swapsWith (.Call (.Attribute (.Name x p1) "append" apos) [a] [] p2) none pos.line X.env = pure false := by rfl) :
    PSd X tb W (.Expr (.Call (.Attribute (.Name x p1) "append" apos) [a] [] p2) pos) ds (.nx (ds.set i (.own (xs ++ [d])))) := by
  obtain ⟨t, p, q⟩ := h
  refine ⟨_, ps_expr (pe_bm PySem.F.plainAttrs_list PySem.F.slot_list_append PySem.F.type_list_append mt_append (pe_var hN (visB_ok hv) h1 h2) (pa_cons p pa_nil hs) hbase hfew hline hs hplain) hsw, fun Hd0 H0 Hd H σ D S z => ?_⟩
  obtain ⟨l, vs, ea, hl, hd, hx⟩ := S.env.own e
  refine ⟨.ref l, ea, .inl ⟨rfl, vs, .inl (.inl hl)⟩, q Hd H σ S.env _ fun v Hd' H' g dv => ?_⟩
  have S' := S.up g
  obtain ⟨l2, vs2, ea2, hl2, hd2, hx2⟩ := S'.env.own e
  have el : l2 = l := V.ref.inj (Option.some.inj (Option.some.inj (ea2.symm.trans ea)))
  subst el
  refine ⟨l2, vs2, v, rfl, rfl, hl2, by rw [dpa_len hx2]; exact Nat.lt_of_lt_of_le hz (by decide), ?_⟩
  exact z σ Hd' _ (S'.putOwn e ea2 hl2 hd2 (dpa_app hx2 (.cons dv .nil))) g.d
end
end DL
/-! DL22: tuples of any data: in, +, slices; list(tuple). -/
namespace DL
open PySem PySem.Spec PyProof.Rows L2
section
variable {X : Cx} {tb : List Addr} {W : WX'} {ds es : List Sl} {d e f : PyData} {a b : Expr} {pos p : Pos} {K : PySem.W.Frag}
def rInDT (K : PySem.W.Frag) (neg : Bool) : R2 := fun x y H Q => ∃ d ds, Dp K H x d ∧ Dp K H y (.tuple ds) ∧ SeqAt.shaped d = true ∧ SeqAt.shaped (.tuple ds) = true ∧ Q (.bl (if neg then !ds.any fun z => PyData.eqv z d else ds.any fun z => PyData.eqv z d)) H
theorem op_inDT (hu : X.A.units + 65 < cLine) : OpR X (compareOp .In) (rInDT X.K false) := by
  intro pins s σ H x y v u Q I rx ry h
  obtain ⟨d, ds, hd, he, sd, se, q⟩ := h
  obtain ⟨as, r1⟩ := Dp.reads I d x v hd rx
  obtain ⟨bs, r2⟩ := Dp.reads I (.tuple ds) y u he ry
  exact SeqAt.in_tuple_reads r2 r1 (SeqAt.canLay_of_shaped se) (SeqAt.canLay_of_shaped sd) (room_in_shaped sd hu) ⟨.bl _, H, I, rfl, q⟩
theorem op_notInDT (hu : X.A.units + 65 < cLine) : OpR X (compareOp .NotIn) (rInDT X.K true) := by
  intro pins s σ H x y v u Q I rx ry h
  obtain ⟨d, ds, hd, he, sd, se, q⟩ := h
  obtain ⟨as, r1⟩ := Dp.reads I d x v hd rx
  obtain ⟨bs, r2⟩ := Dp.reads I (.tuple ds) y u he ry
  exact SeqAt.notIn_tuple_reads r2 r1 (SeqAt.canLay_of_shaped se) (SeqAt.canLay_of_shaped sd) (room_in_shaped sd hu) ⟨.bl _, H, I, rfl, q⟩
theorem rv_inDT {neg : Bool} {zs : List PyData} (sd : SeqAt.shaped d = true) (se : SeqAt.shaped (.tuple zs) = true) : RvD K tb (rInDT K neg) d (.tuple zs) (.bool (if neg then !zs.any fun z => PyData.eqv z d else zs.any fun z => PyData.eqv z d)) := fun Hd H x y D _ dx dy Q q =>
  ⟨d, zs, Dp.up dx D.s, Dp.up dy D.s, sd, se, q _ Hd H (Gr.refl D) (.bl _)⟩
theorem cmp_inDT {k : Nat} {zs : List PyData} (hr : Room k X.A) (sd : SeqAt.shaped d = true) (se : SeqAt.shaped (.tuple zs) = true) : CmpD X tb .In d (.tuple zs) (zs.any fun z => PyData.eqv z d) := ⟨⟨_, op_inDT (by have := hr.un; omega), rv_inDT (neg := false) sd se⟩⟩
theorem cmp_notInDT {k : Nat} {zs : List PyData} (hr : Room k X.A) (sd : SeqAt.shaped d = true) (se : SeqAt.shaped (.tuple zs) = true) : CmpD X tb .NotIn d (.tuple zs) (!zs.any fun z => PyData.eqv z d) := ⟨⟨_, op_notInDT (by have := hr.un; omega), rv_inDT (neg := true) sd se⟩⟩
theorem rv_notInD {zs : List PyData} (sd : SeqAt.shaped d = true) (se : SeqAt.shaped (.list zs) = true) : RvD K tb (rNotInD K) d (.list zs) (.bool (!zs.any fun z => PyData.eqv z d)) := fun Hd H x y D _ dx dy Q q =>
  ⟨d, zs, Dp.up dx D.s, Dp.up dy D.s, sd, se, q _ Hd H (Gr.refl D) (.bl _)⟩
theorem cmp_notInD {k : Nat} {zs : List PyData} (hr : Room k X.A) (sd : SeqAt.shaped d = true) (se : SeqAt.shaped (.list zs) = true) : CmpD X tb .NotIn d (.list zs) (!zs.any fun z => PyData.eqv z d) := ⟨⟨_, op_notInD (by have := hr.un; omega), rv_notInD sd se⟩⟩
/-! ### tuple + tuple -/
theorem rv_catA {xs ys : List PyData} (h : xs.length + ys.length ≤ 16000000) : RvD K tb (rCatA K) (.tuple xs) (.tuple ys) (.tuple (xs ++ ys)) := fun Hd H x y D _ dx dy Q q => by
  cases dx with
  | @tup A us _ h1 h2 =>
    cases dy with
    | @tup B ws _ k1 k2 =>
      have l1 := dpa_len h2
      have l2 := dpa_len k2
      refine ⟨A, B, us, ws, rfl, rfl, st_sub D.s h1, st_sub D.s k1, by rw [l1, l2]; exact Nat.le_trans h (by decide), fun e => ?_, fun e1 e2 => ?_, fun _ _ p hp => ?_⟩
      · rw [e] at l1
        have e3 : xs = [] := List.eq_nil_of_length_eq_zero l1.symm
        rw [e3] at q
        exact q _ Hd H (Gr.refl D) (.tup k1 k2)
      · rw [e2] at l2
        have e3 : ys = [] := List.eq_nil_of_length_eq_zero l2.symm
        rw [e3, List.append_nil] at q
        exact q _ Hd H (Gr.refl D) (.tup h1 h2)
      · exact q _ _ _ (Gr.new D hp fun _ z => HO.noConfusion z) (.tup (.inl (.inl upd_same)) (DpAll.up (dpa_app h2 k2) (Gr.new D hp fun _ z => HO.noConfusion z).d))
theorem bin_catA {xs ys : List PyData} (h : xs.length + ys.length ≤ 16000000) : BinD X tb .Add (.tuple xs) (.tuple ys) (.tuple (xs ++ ys)) := ⟨⟨_, op_catA, rv_catA h⟩⟩
/-! ### slices of tuples -/
theorem cutD_whole {α : Type} {xs : List α} {l u : Option Int} (h : HT.sIx xs.length 0 l = 0 ∧ HT.sIx xs.length xs.length u = xs.length) : DL.cutD xs l u = xs := by
  unfold DL.cutD
  rw [h.1, h.2, List.drop_zero, Nat.sub_zero, List.take_length]
theorem rs_tupA {xs : List PyData} {l u : Option Int} : RsD K (rSlA K) (.tuple xs) l u (.tuple (DL.cutD xs l u)) := fun Hd H x D dx Q q => by
  cases dx with
  | @tup A us _ h1 h2 =>
    have l1 := dpa_len h2
    refine ⟨A, us, rfl, st_sub D.s h1, fun e => ?_, fun e p hp => ?_⟩
    · rw [l1] at e
      rw [cutD_whole e] at q
      exact q _ Hd H (Gr.refl D) (.tup h1 h2)
    · exact q _ _ _ (Gr.new D hp fun _ z => HO.noConfusion z) (.tup (.inl (.inl upd_same)) (DpAll.up (dpa_cut l u h2) (Gr.new D hp fun _ z => HO.noConfusion z).d))
theorem slc_t {xs : List PyData} {l u : Option Int} : SlcD X (.tuple xs) l u (.tuple (DL.cutD xs l u)) := ⟨⟨_, sl_tupA, rs_tupA⟩⟩
end
end DL
/-! DL23: the signs of a text, one by one. -/
namespace DL
open PySem PySem.Spec PyProof.Rows L2
section
variable {X : Cx} {tb : List Addr} {ds : List Sl} {tg a b : Expr} {pos p : Pos}
def signsD (z : Str) : List PyData := z.cps.toList.map fun c => PyData.str ⟨#[c]⟩
theorem id_str {z : Str} (h : PEd X tb a ds (.str z)) : PId X tb tg a ds (signsD z) :=
  let ⟨_, p, q⟩ := h; ⟨_, pi_str p, fun Hd H σ E R y => q Hd H σ E _ fun v Hd1 H1 g dv => by
    cases dv
    have el : (signsD z).length = z.cps.size := by
      unfold signsD
      rw [List.length_map, Array.length_toList]
    refine ⟨z, rfl, y _ Hd1 H1 g ⟨fun i Hd' H' s D hi => ?_, fun i Hd' H' x H'' s D _ w => ?_, fun i Hd' H' s D hi => ?_⟩⟩
    · show i < z.cps.size
      omega
    · obtain ⟨rfl, c, hc, rfl⟩ := w
      refine ⟨Hd', _, ?_, Gr.refl D, .str ⟨#[c]⟩⟩
      unfold signsD
      rw [List.getElem?_map, Array.getElem?_toList, hc] <;> rfl
    · show z.cps.size ≤ i
      omega⟩
end
end DL
/-! GX1: a generator expression whose element may be any expression: its frame as a context. -/
namespace GX
open PySem PySem.Spec PyProof.Rows L2 GenW

/-- the expression's scope, seen from the def's; Ng: its names by slots; mp: which slot of the def's each free one is -/
structure GxOk (N : List Str) (sc scope : Scope) (Ng : List Str) (mp : List (Option Nat)) : Prop where
  kind : scope.kind = .function
  co : scope.isCoroutine = false
  cell : ∀ y ∈ scope.names, y.2 ≠ .cell
  dot : scope.names.lookup (".0" : Str) = some NameKind.local
  free : ∀ y ∈ scope.names, y.2 = .free → sc.names.lookup y.1 = some .cell ∨ sc.names.lookup y.1 = some .free
  len : mp.length = Ng.length
  map : ∀ (j i : Nat), mp[j]? = some (some i) → ∃ x, Ng[j]? = some x ∧ N[i]? = some x ∧ scope.names.lookup x = some .free
  nd : Ng.Nodup
def pick (σ : L2.St) (mp : List (Option Nat)) : L2.St := mp.map fun o => match o with
  | some i => (σ[i]?).join
  | none => none
theorem pick_some {σ : L2.St} {mp : List (Option Nat)} {j : Nat} {v : V} (h : (pick σ mp)[j]? = some (some v)) : ∃ i, mp[j]? = some (some i) ∧ σ[i]? = some (some v) := by
  unfold pick at h
  rw [List.getElem?_map] at h
  cases q : mp[j]? with
  | none => rw [q] at h; cases h
  | some o =>
    rw [q] at h
    cases o with
    | none => cases h
    | some i =>
      refine ⟨i, rfl, ?_⟩
      have h : some ((σ[i]?).join) = some (some v) := h
      have h : (σ[i]?).join = some v := Option.some.inj h
      cases q2 : σ[i]? with
      | none => rw [q2] at h; cases h
      | some o2 => rw [q2] at h; exact congrArg some h
abbrev _root_.L2.Cx.gx (X : Cx) (Ng : List Str) (s : Shared) (H : Hp) (scope : Scope) (code : Value) (fp : List Addr) : Cx :=
  { X with
    A := X.A.in1.in1.deeper (genEnv scope (cloFrom X.env.cells scope.names []) s.heap.objs.size code builtinsNs X.env)
    N := Ng, s_0 := s, H_0 := H, env := genEnv scope (cloFrom X.env.cells scope.names []) s.heap.objs.size code builtinsNs X.env,
    outer := X.stack, stack := genEnv scope (cloFrom X.env.cells scope.names []) s.heap.objs.size code builtinsNs X.env :: X.stack, ex := fp, fn := fun _ => false, calm := true, pn := [], xe := fun _ _ => False }
theorem room_gx {X : Cx} {k : Nat} (hr : Room (k + 1) X.A) (env : Env) : Room k (X.A.in1.in1.deeper env) :=
  ⟨hr.hd, by have := hr.dp; show X.A.depth + 1 + 3 * k + 5 < _; omega, by have := hr.un; show X.A.units + 1 + 1 + 3 + 16 * k + 200 < _; omega⟩
section
variable {X : Cx} {pins : List (Addr × Obj)} {σ : L2.St} {H : Hp} {s s5 : Shared} {scope : Scope} {Ng : List Str} {mp : List (Option Nat)} {fp : List Addr} {code : Value} {m : Str → Option Value}
theorem gx_free (I : Inv X pins σ H s) (ok : GxOk X.N X.env.scope scope Ng mp) : ∀ y ∈ scope.names, y.2 = .free → ∃ c, X.env.cells.lookup y.1 = some c := fun y hy e => by
  rcases ok.free y hy e with k | k
  · exact I.ok.has _ (.inl k)
  · exact I.ok.has _ (.inr k)
theorem gx_start (I : Inv X pins σ H s) (ok : GxOk X.N X.env.scope scope Ng mp) (hA : X.A.handled = none) (hfp : ∀ b ∈ fp, FpOk X pins H b ∧ b < s.heap.objs.size) (ho : s5.os = s.os) (hb : AllBare s5.gens)
    (kp : ∀ b o, s.heap.get? b = some o → s5.heap.get? b = some o) (hn : s5.heap.Ns s.heap.objs.size m) : Inv (X.gx Ng s H scope code fp) [] (pick σ mp) H s5 := by
  have hfree := gx_free I ok
  generalize hcl : cloFrom X.env.cells scope.names [] = cl
  have cm : ∀ {y c}, (y, c) ∈ cl → X.env.cells.lookup y = some c ∧ c < s.heap.objs.size := fun {y c} hm => by
    rw [← hcl] at hm
    rcases cloFrom_mem hm with hm | ⟨h1, rfl⟩
    · cases hm
    · obtain ⟨c, hc⟩ := hfree _ h1 rfl
      rw [hc]
      obtain ⟨w, z⟩ := I.cell _ _ hc
      exact ⟨rfl, z.lt⟩
  have mem : ∀ {y c}, cl.lookup y = some c → X.env.cells.lookup y = some c ∧ c < s.heap.objs.size := fun {y c} e => cm (PySem.mem_of_lookup e)
  have look : ∀ {y}, scope.names.lookup y = some .free → ∃ c, cl.lookup y = some c ∧ X.env.cells.lookup y = some c := fun {y} hl => by
    have hy : (y, NameKind.free) ∈ scope.names := PySem.mem_of_lookup hl
    obtain ⟨c', e'⟩ := mem_lookup (cloFrom_has (cells := X.env.cells) (acc := []) hy)
    rw [hcl] at e'
    exact ⟨c', e', (mem e').1⟩
  have hL : ∀ b, b < s.heap.objs.size → b ≠ s.heap.objs.size := fun b h => Nat.ne_of_lt h
  have okB : (X.gx Ng s H scope code fp).Ok := by
    show Cx.Ok { X with A := X.A.in1.in1.deeper (genEnv scope (cloFrom X.env.cells scope.names []) s.heap.objs.size code builtinsNs X.env), N := Ng, s_0 := s, H_0 := H, env := genEnv scope (cloFrom X.env.cells scope.names []) s.heap.objs.size code builtinsNs X.env, outer := X.stack, stack := genEnv scope (cloFrom X.env.cells scope.names []) s.heap.objs.size code builtinsNs X.env :: X.stack, ex := fp, fn := fun _ => false, calm := true, pn := [], xe := fun _ _ => False }
    rw [hcl]
    refine ⟨I.ok.mod, ok.kind, I.ok.glob, rfl, Nat.le_refl _, fun y z c e1 e2 => ?_, fun y hy => ?_, fun y c z e => (by cases z), fun _ => hA, ?_, .inr ⟨rfl, rfl⟩, fun b hb => ⟨hL b (hfp b hb).2, fun y c e z => ?_⟩, I.bs, Nat.le_trans I.ok.bsz I.sz, fun b o e hb => ?_, fun b hb z => ?_, I.stack, I.stkFree⟩
    · exact I.ok.inj y z c (mem e1).1 (mem e2).1
    · have hy : scope.names.lookup y = some .cell ∨ scope.names.lookup y = some .free := hy
      rcases hy with hy | hy
      · exact absurd rfl (ok.cell _ (PySem.mem_of_lookup hy))
      · obtain ⟨c, e, _⟩ := look hy
        exact ⟨c, e⟩
    · exact Around.frames_deeper (A := X.A.in1.in1) I.ok.frames
    · exact (hfp b hb).1.2.2.2.2.1 y c (mem e).1 z
    · rcases (hfp b hb).1.2.2.2.1 with z | z
      · exact I.ok.noex b o e z
      · exact absurd (Nat.lt_of_lt_of_le (Heap.lt_size e) (Nat.le_trans I.ok.bsz z)) (Nat.lt_irrefl _)
    · rcases List.mem_cons.mp (I.stkSub b z) with z | z
      · exact (hfp b hb).1.2.1 z
      · exact (hfp b hb).1.2.2.1 z
  refine ⟨okB, ho, hb, Un.kept kp, ⟨m, hn, fun i y av e1 e2 e3 => ?_⟩, fun y c e => ?_, I.hok.fresh (Nat.le_refl _), fun y c e => ?_, fun p hp => absurd (show p ∈ ([] : List (Addr × Obj)) ++ [] from hp) (by simp), I.hok.kept kp, ?_⟩
  · obtain ⟨i', h1, h2⟩ := pick_some e2
    obtain ⟨x, h3, h4, h5⟩ := ok.map i i' h1
    have e1 : Ng[i]? = some y := e1
    have exy : x = y := Option.some.inj (h3.symm.trans e1)
    subst exy
    obtain ⟨m', hn', hl⟩ := I.loc
    have hvis : Vis X.env.scope x := (ok.free _ (PySem.mem_of_lookup h5) rfl).elim (fun k => .inr (.inl k)) (fun k => .inr (.inr k))
    obtain ⟨w, r, q⟩ := hl i' x av h4 h2 hvis
    refine ⟨w, r, .inr ⟨.inr h5, ?_⟩⟩
    obtain ⟨c, h6, h7⟩ := look h5
    rcases q with ⟨k, _⟩ | ⟨_, c', e', z⟩
    · have k : X.env.scope.names.lookup x = some .local := k
      rcases ok.free _ (PySem.mem_of_lookup h5) rfl with k' | k' <;> rw [show X.env.scope.names.lookup x = _ from k'] at k <;> cases k
    · rw [h7] at e'
      cases e'
      refine ⟨c, ?_, z.keeps kp⟩
      show (cloFrom X.env.cells scope.names []).lookup x = some c
      rw [hcl]
      exact h6
  · have e : (cloFrom X.env.cells scope.names []).lookup y = some c := e
    rw [hcl] at e
    obtain ⟨w, z⟩ := I.cell y c (mem e).1
    exact ⟨w, z.keeps kp⟩
  · have e : (cloFrom X.env.cells scope.names []).lookup y = some c := e
    rw [hcl] at e
    exact I.freeC y c (mem e).1
  · show (pick σ mp).length = Ng.length
    unfold pick
    rw [List.length_map, ok.len]
/-- back in the def's context -/
theorem gx_back {H' : Hp} {σ' : L2.St} (I : Inv X pins σ H s) (hfp : ∀ b ∈ fp, FpOk X pins H b) (J : Inv (X.gx Ng s H scope code fp) [] σ' H' s5) : Inv X pins σ H' s5 :=
  I.call' (ch := fp) J.os J.base J.hok J.bare fun b hb => ⟨(hfp b hb).2.2.2.1, (hfp b hb).2.1, (hfp b hb).2.2.2.2.1, (hfp b hb).2.2.2.2.2⟩
end
end GX
/-! GX2: a generator expression is made. -/
namespace GX
open PySem PySem.Spec PyProof.Rows L2 GenW GxR
section
variable {X : Cx} {pins : List (Addr × Obj)} {σ : L2.St} {H : Hp} {s : Shared} {scope : Scope} {Ng : List Str} {mp : List (Option Nat)} {tg elt iter : Expr} {gpos : Pos} {wi : TI} {c P : Addr} {k : Nat} {Q' : Value → Shared → Prop} {R : It → Hp → Prop}
/-- made, not begun: s4, H4: the state at its making -/
structure Made (X : Cx) (pins : List (Addr × Obj)) (σ : L2.St) (tg elt iter : Expr) (scope : Scope) (gpos : Pos) (Ng : List Str) (mp : List (Option Nat)) (a : Addr) (s5 : Shared) (s4 : Shared) (H4 : Hp) (code : Value) (it : Addr) (fp : List Addr) (tn : Nat → Heap → Prop) (J : It) : Prop where
  i4 : Inv X pins σ H4 s4
  fp4 : ∀ b ∈ fp, FpOk X pins H4 b ∧ b < s4.heap.objs.size
  turn : Turn X.prog X.w X.K tg J fp it tn
  gen : s5.heap.IsGen a s4.gens.size
  ga : s4.heap.objs.size < a
  gs : s5.gens[s4.gens.size]? = some (.fresh (.compStart (.GeneratorExp elt [⟨tg, iter, [], 0⟩] scope gpos) 0 (.ref it) .none (genEnv scope (cloFrom X.env.cells scope.names []) s4.heap.objs.size code builtinsNs X.env)))
  i5 : Inv (X.gx Ng s4 H4 scope code fp) [] (pick σ mp) H4 s5
  t5 : tn 0 s5.heap
theorem gx_make (hr : Room k X.A) (TB : TabB X.base X.mg c P) (hcode : X.env.code = .ref c) (ok : GxOk X.N X.env.scope scope Ng mp) (hi : PI X tg iter wi) (hs : ∀ v, genFold iter X.env v = pure v) (I : Inv X pins σ H s)
    (h : wi σ H fun J H1 => TabG H1 P ∧ ∀ H2, Tabbed P H1 H2 → R J H2)
    (hQ : ∀ a s5 s4 H4 code it fp tn J, R J H4 → Made X pins σ tg elt iter scope gpos Ng mp a s5 s4 H4 code it fp tn J → Q' (.ref a) s5) :
    wpAny (model X.prog X.w) X.A (eval (.GeneratorExp elt [⟨tg, iter, [], 0⟩] scope gpos) X.env) Q' X.xe s := by
  refine wpAny_GeneratorExp_make ok.co (closure_ok (gx_free I ok)) ok.cell ok.dot ok.kind (by have := hr.dp; omega) ?_ hs
  refine thn (hi.run pins s σ H _ I h) fun xv s1 h1 => thn h1 fun itv s2 h2 => ?_
  obtain ⟨it, fp, tn, J, H2, e, I2, T, st2, f2, ⟨ps, hP, ht⟩, q⟩ := h2
  subst e
  have hPs : s2.heap.get? P = some { cls := .none, data := .fields ps } := I2.hok P _ hP
  have cd : PySem.W.CodeHd s2.heap c P := TB.code.keeps fun b u e => I2.bk b u e
  have hcP : cStatics ≠ P := fun e => by
    obtain ⟨_, hns, _⟩ := I2.nolimit
    obtain ⟨o', es, ep, ho, hd, _⟩ := hns
    rw [e, hPs] at ho
    cases ho
    cases hd
  have nfP : ∀ b ∈ fp, b ≠ P := fun b hb z => by
    have := (f2 b hb).1
    rw [z, hP] at this
    cases this
  have cont : ∀ (code : Value) (h3 : Heap) (tk : Nat) (ps' : Array Value), Heap.ExtBut P s2.heap h3 → s2.heap.objs.size ≤ h3.objs.size → h3.get? P = some { cls := .none, data := .fields ps' } → (∃ more, ps' = ps ++ more) → TriplesOk ps'.toList →
      wpAny (model X.prog X.w) X.A (builtinsFor X.env.globals X.env.builtins) (fun bi s₄ =>
        ∀ h', h'.Ns s₄.heap.objs.size (fun y => if y = ".0" then some (.ref it) else none) → Heap.SameBut s₄.heap.objs.size (s₄.heap.push { cls := .type "frame", data := .dict #[] }) h' →
          Q' (.ref h'.objs.size) { s₄ with
            gens := s₄.gens.push (.fresh (.compStart (.GeneratorExp elt [⟨tg, iter, [], 0⟩] scope gpos) 0 (.ref it) .none (genEnv scope (cloFrom X.env.cells scope.names []) s₄.heap.objs.size code bi X.env))),
            toks := s₄.toks + 1 + 1 + 1,
            heap := h'.push { cls := .type "generator", data := .fields #[.int s₄.gens.size 0, .str "<genexpr>" (s₄.toks + 1), .str (X.env.qual ++ "<genexpr>") (s₄.toks + 1 + 1)] } }) X.xe { s2 with heap := h3, toks := tk } := by
    intro code h3 tk ps' hx hsz hP3 hmore ht3
    obtain ⟨bm, ob, e1, e2, e3, e4, e5, e6, e7, e8⟩ := TB.bm
    have keep3 : ∀ b u, b ≠ P → s2.heap.get? b = some u → h3.get? b = some u := fun b u hb e => hx b u hb e
    obtain ⟨more, em⟩ := hmore
    subst em
    have I4 : Inv X pins σ (upd H2 P (.tbl (ps ++ more))) { s2 with heap := h3, toks := tk } := inv_tab (more := more) (h' := h3) (g' := s2.gens) (d' := s2.drawn) (t' := tk) I2 hP keep3 hP3 I2.bare
    refine wpAny_builtinsFor (m := X.mg) (by rw [I2.ok.glob]; exact (I2.mod.glob.keeps I2.bk).extBut hx TB.gP) e1 e2 (keep3 _ _ e4 (I2.bk _ _ e5)) e6 e7 e8 ?_
    intro h' hn' hs'
    have hsz' : h'.objs.size = h3.objs.size + 1 := by rw [hs'.1, Heap.size_push]
    have keep' : ∀ b o, h3.get? b = some o → h'.get? b = some o := fun b o e => hs'.extBut b o (Nat.ne_of_lt (Heap.lt_size e)) (Heap.get?_push_of_some _ e)
    have hfp4 : ∀ b ∈ fp, FpOk X pins (upd H2 P (.tbl (ps ++ more))) b ∧ b < h3.objs.size := fun b hb => by
      obtain ⟨o, e, _⟩ := T.obj _ _ st2 b hb
      exact ⟨⟨by rw [upd_ne (nfP b hb)]; exact (f2 b hb).1, (f2 b hb).2⟩, Heap.lt_size (keep3 b o (nfP b hb) e)⟩
    refine hQ _ _ { s2 with heap := h3, toks := tk } (upd H2 P (.tbl (ps ++ more))) code it fp tn J (q _ ⟨⟨ps ++ more, upd_same, ht3⟩, fun b hb => upd_ne hb⟩) ⟨I4, hfp4, T, ⟨_, _, _, Heap.get?_push_size _ rfl, rfl, rfl, rfl⟩, ?_, Array.getElem?_push_size .., ?_, ?_⟩
    · show h3.objs.size < h'.objs.size
      omega
    · exact gx_start I4 ok hr.hd hfp4 rfl (I2.bare.push rfl) (fun b o e => Heap.get?_push_of_some _ (keep' b o e)) (hn'.push _)
    · exact T.keep _ _ _ st2 fun b hb o e => Heap.get?_push_of_some _ (keep' b o (keep3 b o (nfP b hb) e))
  refine ⟨I2.nolimit, ?_⟩
  cases hf : codeAmong gpos ps.toList with
  | none =>
    refine wpAny_genexprCodeX hcode (cd.code hPs ht) (cd.tab hPs) hf fun c' h' tk hx hge hlt hco' _ htab' _ => ?_
    obtain ⟨o1, vs, f1, tf, fl, tg', inF, tx, tt, op, _, _, _, _, _, _, _, _, _, htr, _⟩ := hco'
    exact cont _ h' tk _ hx (Nat.le_trans hge (Nat.le_of_lt hlt)) htab'.2 ⟨_, rfl⟩ htr
  | some cv =>
    refine wpAny_genexprCode_hit hcode (cd.code hPs ht) hf ?_
    exact cont cv s2.heap s2.toks ps (Heap.ExtBut.refl _ _) (Nat.le_refl _) hPs ⟨#[], by simp⟩ ht
end
end GX
/-! GX3: a generator expression's turns. -/
namespace GX
open PySem PySem.Spec PyProof.Rows L2 GenW GxR
theorem over_loopG {A : Around} {elt tg iter : Expr} {scope : Scope} {pos : Pos} {it acc : Value} {env : Env} : A.over (.compLoop (.GeneratorExp elt [⟨tg, iter, [], 0⟩] scope pos) 0 it acc env) [] = A.deeper env := by
  first
    | rfl
    | (obtain ⟨hd, d, fr, gs, u⟩ := A; simp [Around.over, Around.deeper, marksOver, frameCount, unitsOf, envsOf, guardsOf, pushEnvs, pushGuards, Code.envs, Code.env?, Code.isFrame, Code.guards, Code.isGuard, Code.weight, Code.frames, Code.isCreation, Code.isCaller, Code.cUnits])
theorem over_startG {A : Around} {elt tg iter : Expr} {scope : Scope} {pos : Pos} {it acc : Value} {env : Env} : A.over (.compStart (.GeneratorExp elt [⟨tg, iter, [], 0⟩] scope pos) 0 it acc env) [] = A.deeper env := by
  first
    | rfl
    | (obtain ⟨hd, d, fr, gs, u⟩ := A; simp [Around.over, Around.deeper, marksOver, frameCount, unitsOf, envsOf, guardsOf, pushEnvs, pushGuards, Code.envs, Code.env?, Code.isFrame, Code.guards, Code.isGuard, Code.weight, Code.frames, Code.isCreation, Code.isCaller, Code.cUnits])
/-- the slots of σ stay in σ2 -/
def Holds (σ σ2 : L2.St) : Prop := σ.length = σ2.length ∧ ∀ (j : Nat) v, σ[j]? = some (some v) → σ2[j]? = some (some v)
section
variable (X : Cx) (σ0 : L2.St) (fp : List Addr) (Ci : List V → List (Addr × Obj) → Prop) (Cn : V → Prop) (Yv : List V → V → Hp → Prop) (Fin : List V → Hp → Prop)
def RF : Shared → Prop := fun s => ∃ acc pins H, Ci acc pins ∧ Inv X pins σ0 H s ∧ Fin acc H
def YF : Protocol := fun n s₀ v s kap => ∃ acc y pins H, RelV y v ∧ Ci acc pins ∧ Inv X pins σ0 H s ∧ Yv acc y H ∧
  (Cn y → ∀ s'' pins'', Ci (acc ++ [y]) pins'' → Inv X pins'' σ0 H s'' → (∀ b ∈ fp, ∀ o, s.heap.get? b = some o → s''.heap.get? b = some o) → kap (.send .none) s'')
/-- the turns: W by the turn, a measure, what is out -/
structure Turns (J : It) (g : TG) (te : TE) (W : Nat → Nat → List V → Hp → Prop) : Prop where
  go : ∀ i m acc H, W i m acc H → (J.stop i H ∧ Fin acc H) ∨ (J.go i H ∧ ∀ x H', J.yld i H x H' → g x σ0 H' fun σ2 H2 => Holds σ0 σ2 ∧ te σ2 H2 fun y H4 => Yv acc y H4 ∧ (Cn y → ∃ m', m' < m ∧ W (i + 1) m' (acc ++ [y]) H4))
end
section
variable {X : Cx} {σ0 : L2.St} {fp : List Addr} {Ci : List V → List (Addr × Obj) → Prop} {Cn : V → Prop} {Yv : List V → V → Hp → Prop} {Fin : List V → Hp → Prop} {A : Around} {elt tg iter : Expr} {scope : Scope} {pos : Pos} {it : Addr} {tn : Nat → Heap → Prop} {J : It} {g : TG} {te : TE} {W : Nat → Nat → List V → Hp → Prop}
theorem gx_loop (hA : A.deeper X.env = X.A) (hx : X.xe = fun _ _ => False) (hex : X.ex = fp) (hpn : X.pn = []) (hc : X.calm = true) (hco : X.env.scope.isCoroutine = false)
    (T : Turn X.prog X.w X.K tg J fp it tn) (hg : PG X tg g) (he : PE X elt te) (hCi : ∀ acc pins, Ci acc pins → ∀ p ∈ pins, ∀ b ∈ fp, p.1 ≠ b) (hT : Turns σ0 Cn Yv Fin J g te W) :
    ∀ (m n i : Nat) (acc : List V) (pins : List (Addr × Obj)) (s₀ s : Shared) (H : Hp), m + 1 ≤ n → Ci acc pins → Inv X pins σ0 H s → tn i s.heap → (∀ b ∈ fp, H b = none) → W i m acc H →
      Seg (model X.prog X.w) A (fun _ _ r s₁ => r = .ok .next ∧ RF X σ0 Ci Fin s₁) (YF X σ0 fp Ci Cn Yv) n s₀ (.compLoop (.GeneratorExp elt [⟨tg, iter, [], 0⟩] scope pos) 0 (.ref it) .none X.env)
        ((model X.prog X.w).den (.compLoop (.GeneratorExp elt [⟨tg, iter, [], 0⟩] scope pos) 0 (.ref it) .none X.env)) [] s := by
  have hover : A.over (.compLoop (.GeneratorExp elt [⟨tg, iter, [], 0⟩] scope pos) 0 (.ref it) .none X.env) [] = X.A := by rw [over_loopG]; exact hA
  have stat : ∀ {pins : List (Addr × Obj)} {acc : List V} {σ' : L2.St} {H' : Hp} {s' : Shared}, Ci acc pins → Inv X pins σ' H' s' → (∀ b ∈ fp, H' b = none) → ∀ b ∈ fp, FpOk X pins H' b := fun {pins acc σ' H' s'} hci I' hn b hb =>
    ⟨hn b hb, (I'.ok.exf b (by rw [hex]; exact hb)).1, I'.ok.exfs b (by rw [hex]; exact hb), .inl (by rw [hex]; exact hb), fun x c e => (I'.ok.exf b (by rw [hex]; exact hb)).2 x c e, fun p hp => by rw [hpn] at hp; exact hCi acc pins hci p hp b hb⟩
  intro m
  induction m using Nat.strongRecOn with
  | ind m ih =>
    intro n i acc pins s₀ s H hn hci I st hfn hw
    show Seg _ A _ _ _ s₀ _ ((compTurn (.GeneratorExp elt [⟨tg, iter, [], 0⟩] scope pos) 0 (.ref it) .none X.env).onRaise (leaving X.env)) [] s
    rw [compTurn_gen, Sem.onRaise_eq_wrap]
    refine seg_bind_wrap (wpAny_standAt ?_)
    rcases hT.go i m acc H hw with ⟨stop, fin⟩ | ⟨go, step⟩
    · refine seg_bind_wrap ?_
      rw [hover]
      refine thnF (T.done X rfl rfl rfl hc i pins s σ0 H (fun _ _ => False) I (stat hci I hfn) st stop) fun r s1 ⟨hr, I1⟩ => ?_
      subst hr
      exact seg_end (.ok .next) ⟨rfl, acc, pins, H, hci, I1, fin⟩
    · refine seg_bind_wrap ?_
      rw [hover]
      refine thnF (T.item X rfl rfl rfl hc i pins s σ0 H (fun _ _ => False) I (stat hci I hfn) st go) fun r s1 ⟨u, hr, h6⟩ => ?_
      subst hr
      refine seg_bind_wrap ?_
      rw [hover]
      refine thnF h6 fun _ s7 ⟨x, H7, I7, r7, y7, st7, n7⟩ => ?_
      have I7' := I7.pinned (stat hci I7 n7) (T.obj _ _ st7)
      refine seg_bind_wrap ?_
      rw [hover]
      have pg := hg.run (pins ++ pinsAt fp s7.heap) s7 σ0 H7 x u _ I7' r7 (step x H7 y7)
      rw [hx] at pg
      refine thnF pg fun _ s8 ⟨σ8, H8, I8, hw8, q8⟩ => ?_
      simp only [List.forIn_nil]
      refine seg_bind_wrap (wpAny_pure ?_)
      simp only [if_true]
      have hy : ∀ v, yieldOut X.env v = yieldValue v := fun v => by simp only [yieldOut, hco, Bool.false_eq_true, if_false]
      simp only [hy]
      rw [Sem.bind_eq_wrap', Sem.bind_eq_wrap', Sem.wrap_wrap, Sem.wrap_wrap]
      refine seg_wrap ?_
      rw [hover]
      have pe := he.run (pins ++ pinsAt fp s7.heap) s8 σ8 H8 _ I8 q8
      rw [hx] at pe
      refine thnF pe fun v s9 ⟨y, H9, I9, r9, q9, next⟩ => ?_
      have I10 : Inv X pins σ0 H9 s9 := (I9.unpinned (pl := pinsAt fp s7.heap)).weak hw8.1 hw8.2
      have pin' : ∀ b ∈ fp, ∀ o, s7.heap.get? b = some o → s9.heap.get? b = some o ∧ H9 b = none := fun b hb o e =>
        let z := I9.pin (b, o) (List.mem_append_right _ (List.mem_append_right _ (mem_pinsAt hb e)))
        ⟨z.1, z.2.1⟩
      obtain ⟨n, rfl⟩ : ∃ k, n = k + 1 := ⟨n - 1, by omega⟩
      refine seg_at (seg_yield rfl rfl rfl ⟨acc, y, pins, H9, r9, hci, I10, q9, fun hcn s'' pins'' hci'' I'' hkeep => ?_⟩)
      obtain ⟨m', hm', w'⟩ := next hcn
      refine seg_again rfl (ih m' hm' n (i + 1) (acc ++ [y]) pins'' s'' s'' H9 (by omega) hci'' I'' ?_ (fun b hb => ?_) w')
      · exact T.keep _ _ _ st7 fun b hb o e => hkeep b hb o (pin' b hb o e).1
      · obtain ⟨o, e, _⟩ := T.obj _ _ st7 b hb
        exact (pin' b hb o e).2
theorem gx_begin (hA : A.deeper X.env = X.A) (hx : X.xe = fun _ _ => False) (hex : X.ex = fp) (hpn : X.pn = []) (hc : X.calm = true) (hco : X.env.scope.isCoroutine = false)
    (T : Turn X.prog X.w X.K tg J fp it tn) (hg : PG X tg g) (he : PE X elt te) (hCi : ∀ acc pins, Ci acc pins → ∀ p ∈ pins, ∀ b ∈ fp, p.1 ≠ b) (hT : Turns σ0 Cn Yv Fin J g te W) {m : Nat} {pins : List (Addr × Obj)} {s₀ s : Shared} {H : Hp}
    (hci : Ci [] pins) (I : Inv X pins σ0 H s) (st : tn 0 s.heap) (hfn : ∀ b ∈ fp, H b = none) (hw : W 0 m [] H) :
      Seg (model X.prog X.w) A (fun _ _ r s₁ => r = .ok .next ∧ RF X σ0 Ci Fin s₁) (YF X σ0 fp Ci Cn Yv) (m + 1) s₀ (.compStart (.GeneratorExp elt [⟨tg, iter, [], 0⟩] scope pos) 0 (.ref it) .none X.env)
        ((model X.prog X.w).den (.compStart (.GeneratorExp elt [⟨tg, iter, [], 0⟩] scope pos) 0 (.ref it) .none X.env)) [] s := by
  have loop := gx_loop (iter := iter) (scope := scope) (pos := pos) hA hx hex hpn hc hco T hg he hCi hT m (m + 1) 0 [] pins s₀ s H (Nat.le_refl _) hci I st hfn hw
  show Seg _ A _ _ _ s₀ _ ((compStart (.GeneratorExp elt [⟨tg, iter, [], 0⟩] scope pos) 0 (.ref it) .none X.env).onRaise (leaving X.env)) [] s
  unfold compStart
  rw [Sem.onRaise_eq_wrap]
  show Seg _ A _ _ _ s₀ _ ((ask >>= _).wrap _ _ _ _) [] s
  refine seg_bind_wrap (wpAny_askSetting ?_)
  split
  · exact seg_again rfl loop
  · first
      | exact seg_bind_wrap (wpAny_rule (seg_bind_wrap (wpAny_standAt (seg_bind_wrap (T.self _ 0 s _ _ st (seg_again rfl loop))))))
      | (refine seg_bind_wrap (wpAny_rule ?_); show Seg _ A _ _ _ s₀ _ ((standAt iter.pos >>= _).wrap _ _ _ _) [] s; exact seg_bind_wrap (wpAny_standAt (seg_bind_wrap (T.self _ 0 s _ _ st (seg_again rfl loop)))))
end
end GX
/-! GX4: all, any of a generator expression. -/
namespace GX
open PySem PySem.Spec PyProof.Rows L2 GenW GxR
theorem inv_same {X : Cx} {pins : List (Addr × Obj)} {σ : L2.St} {H : Hp} {s s' : Shared} (I : Inv X pins σ H s) (hh : s'.heap = s.heap) (ho : s'.os = s.os) (hb : AllBare s'.gens) : Inv X pins σ H s' := by
  obtain ⟨h', g', d', t', o'⟩ := s'
  have hh : h' = s.heap := hh
  subst hh
  have ho : o' = s.os := ho
  exact ⟨I.ok, ho.trans I.os, hb, I.base, I.loc, I.cell, I.free, I.freeC, I.pin, I.hok, I.len⟩
section
variable {X : Cx} {σ0 : L2.St} {fp : List Addr} {A : Around} {R : Result → Shared → Prop} {a : Addr} {g : Nat} {go : Obj}
/-- all (k = true), any (k = false): the loop over a generator -/
theorem drain_all (Qf : Bool → Hp → Prop) (hA : A.handled = none) (hd : A.depth < recursionLimit) (hgo : ∀ h : Heap, h.get? a = some go → h.IsGen a g)
    (hR : ∀ (b : Bool) (pins : List (Addr × Obj)) (σ : L2.St) (H : Hp) (s' : Shared), Inv X pins σ H s' → Qf b H → R (.ok (.ret (.bool b))) s') :
    ∀ (n : Nat) (s : Shared) (σ : L2.St) (H : Hp), Inv X [(a, go)] σ H s →
      (∃ gs, s.gens[g]? = some gs ∧ gs.Goes (model X.prog X.w) A.in1.in1 (fun _ _ r s₁ => r = .ok .next ∧ RF X σ0 (fun _ pins => pins = [(a, go)]) (fun _ H => Qf true H) s₁)
        (YF X σ0 fp (fun _ pins => pins = [(a, go)]) (fun y => y = .bl true) (fun _ y H => ∃ b, y = .bl b ∧ (b = false → Qf false H))) n (.send .none) (s.setGen g .running)) →
      codeAny (model X.prog X.w) A (.builtin "all.loop" ⟨[.ref a], []⟩) R s := by
  intro n
  induction n with
  | zero =>
    intro s σ H I ⟨gs, hgs, hgo'⟩
    have hgl : g < s.gens.size := (Array.getElem?_eq_some_iff.mp hgs).1
    have hg := hgo _ (I.pin (a, go) (List.mem_append_right _ List.mem_cons_self)).1
    refine codeAny_builtin F.entry_all_loop ?_
    rw [Around.under_plainId F.plain_all_loop _]
    show wpAny _ A.in1 (pyNext (.ref a) >>= _) _ _ s
    refine wpAny_bind (wpAny_pyNext_genexpQ (A := A.in1) (P := fun _ _ s₁ => RF X σ0 (fun _ pins => pins = [(a, go)]) (fun _ H => Qf true H) s₁) hA I.nolimit hd hg hgs hgo' (fun v s₁ gs' hbare hv => ?_) (fun s₁ hp h' hk => ?_))
    · obtain ⟨acc, y, pins, H1, r9, hci, I1, ⟨b, rfl, hstop⟩, next⟩ := hv
      subst hci
      cases b with
      | true =>
        exact False.elim (next rfl _ _ rfl I1 (fun _ _ _ e => e))
      | false =>
        obtain rfl : v = Value.bool false := r9
        refine wpAny_bind (wpAny_holding (wpAny_truthy_bool ?_))
        refine wpAny_bind (wpAny_letGo ?_)
        simp only [Bool.false_eq_true, if_false]
        refine wpAny_bind (wpAny_rule (wpAny_pure ?_))
        exact hR false _ _ _ _ (inv_same (s' := s₁.setGen g gs') I1 rfl rfl (allBare_setGen I1.bare hbare)) (hstop rfl)
    · obtain ⟨acc, pins, H1, hci, I1, fin⟩ := hp
      refine wpAny_bind (wpAny_rule (wpAny_pure ?_))
      have I2 := inv_same (s' := s₁.setGen g .finished) I1 rfl rfl (allBare_setGen I1.bare rfl)
      exact hR true _ _ _ _ (I2.kept (t' := (s₁.setGen g .finished).toks) hk) fin
  | succ n ih =>
    intro s σ H I ⟨gs, hgs, hgo'⟩
    have hgl : g < s.gens.size := (Array.getElem?_eq_some_iff.mp hgs).1
    have hg := hgo _ (I.pin (a, go) (List.mem_append_right _ List.mem_cons_self)).1
    refine codeAny_builtin F.entry_all_loop ?_
    rw [Around.under_plainId F.plain_all_loop _]
    show wpAny _ A.in1 (pyNext (.ref a) >>= _) _ _ s
    refine wpAny_bind (wpAny_gsz (n := g + 1) hgl (wpAny_pyNext_genexpQ (A := A.in1) (P := fun _ _ s₁ => RF X σ0 (fun _ pins => pins = [(a, go)]) (fun _ H => Qf true H) s₁) hA I.nolimit hd hg hgs hgo' (fun v s₁ gs' hbare hv => ?_) (fun s₁ hp h' hk => ?_)))
    · intro hsz
      obtain ⟨acc, y, pins, H1, r9, hci, I1, ⟨b, rfl, hstop⟩, next⟩ := hv
      subst hci
      cases b with
      | true =>
        obtain rfl : v = Value.bool true := r9
        refine wpAny_bind (wpAny_holding (wpAny_truthy_bool ?_))
        refine wpAny_bind (wpAny_letGo ?_)
        simp only [if_true]
        have hgl1 : g < s₁.gens.size := by
          have e := setGen_size s₁ g gs'
          rw [e] at hsz
          exact hsz
        refine wpAny_pure ⟨plainId_quiet F.plain_all_loop _, ih (s₁.setGen g gs') σ0 H1 (inv_same I1 rfl rfl (allBare_setGen I1.bare hbare)) ⟨gs', setGen_at hgl1, ?_⟩⟩
        exact next rfl _ _ rfl (inv_same (s' := (s₁.setGen g gs').setGen g .running) I1 rfl rfl (allBare_setGen (allBare_setGen I1.bare hbare) rfl)) (fun _ _ _ e => e)
      | false =>
        obtain rfl : v = Value.bool false := r9
        refine wpAny_bind (wpAny_holding (wpAny_truthy_bool ?_))
        refine wpAny_bind (wpAny_letGo ?_)
        simp only [Bool.false_eq_true, if_false]
        refine wpAny_bind (wpAny_rule (wpAny_pure ?_))
        exact hR false _ _ _ _ (inv_same (s' := s₁.setGen g gs') I1 rfl rfl (allBare_setGen I1.bare hbare)) (hstop rfl)
    · intro _
      obtain ⟨acc, pins, H1, hci, I1, fin⟩ := hp
      refine wpAny_bind (wpAny_rule (wpAny_pure ?_))
      have I2 := inv_same (s' := s₁.setGen g .finished) I1 rfl rfl (allBare_setGen I1.bare rfl)
      exact hR true _ _ _ _ (I2.kept (t' := (s₁.setGen g .finished).toks) hk) fin
end
section
variable {X : Cx} {scope : Scope} {Ng : List Str} {mp : List (Option Nat)} {tg elt iter : Expr} {p pos gpos : Pos} {wi : TI} {g : TG} {te : TE} {c P : Addr} {k : Nat}
/-- all(elt for tg in iter) -/
def tAllG (P : Addr) (mp : List (Option Nat)) (wi : TI) (g : TG) (te : TE) : TE := fun σ H Q => wi σ H fun J H1 => TabG H1 P ∧ ∀ H2, Tabbed P H1 H2 → ∃ W : Nat → Nat → List V → Hp → Prop, (∃ m, W 0 m [] H2) ∧
  Turns (pick σ mp) (fun y => y = .bl true) (fun _ y H => ∃ b, y = .bl b ∧ (b = false → Q (.bl false) H)) (fun _ H => Q (.bl true) H) J g te W
theorem pe_allG (hr : Room (k + 1) X.A) (hg : Gl X "all") (hm : X.mg "all" = none) (TB : TabB X.base X.mg c P) (hcode : X.env.code = .ref c) (ok : GxOk X.N X.env.scope scope Ng mp) (hi : PI X tg iter wi)
    (hpg : ∀ (s : Shared) (H : Hp) (code : Value) (fp : List Addr), PG (X.gx Ng s H scope code fp) tg g) (hpe : ∀ (s : Shared) (H : Hp) (code : Value) (fp : List Addr), PE (X.gx Ng s H scope code fp) elt te)
    (hb : bootBuiltins "all" = some (.builtin "all") := by decide +kernel) (hs : ∀ v, genFold iter X.env v = pure v := by intro _; rfl)
    (he : starEach [.GeneratorExp elt [⟨tg, iter, [], 0⟩] scope gpos] X.env = (false, eval (.GeneratorExp elt [⟨tg, iter, [], 0⟩] scope gpos) X.env) :: starEach [] X.env := by rfl) :
    PE X (.Call (.Name "all" p) [.GeneratorExp elt [⟨tg, iter, [], 0⟩] scope gpos] [] pos) (tAllG P mp wi g te) := by
  refine ⟨fun pins s σ H Q I h => ?_⟩
  refine wpAny_Call_Name_kw (ld_blt I hg hm hb ?_)
  refine PyProof.Rows.callWith_builtin1 ?_ he (by rfl)
  rw [he]
  show wpAny _ _ (spliced ((false, eval (.GeneratorExp elt [⟨tg, iter, [], 0⟩] scope gpos) X.env) :: backTo pos (starEach [] X.env))) _ _ s
  refine Calls.spliced_cons (gx_make (R := fun J H2 => ∃ W : Nat → Nat → List V → Hp → Prop, (∃ m, W 0 m [] H2) ∧ Turns (pick σ mp) (fun y => y = .bl true) (fun _ y H => ∃ b, y = .bl b ∧ (b = false → Q (.bl false) H)) (fun _ H => Q (.bl true) H) J g te W) hr TB hcode ok hi hs I h fun a s5 s4 H4 code it fp tn J hR M => ?_)
  obtain ⟨W, ⟨m0, w0⟩, hT⟩ := hR
  refine Calls.spliced_nil ?_
  refine call_function_tree F.kind_all F.plain_all F.entry_all (F.args_all1 _) ?_
  unfold Builtin.«all»
  refine wpAny_bind (m := oneArg "all" _) (wpAny_pure ?_)
  refine wpAny_bind (wpAny_pyIter_gen M.gen ?_)
  obtain ⟨go, nm, qn, hgo, hgc, hgd, hgs⟩ := M.gen
  have ha : a ≠ s4.heap.objs.size := Nat.ne_of_gt M.ga
  have hHa : H4 a = none := M.i4.hok.fresh (Nat.le_of_lt M.ga)
  have I5 : Inv (X.gx Ng s4 H4 scope code fp) [(a, go)] (pick σ mp) H4 s5 := M.i5.pins_of fun q hq => by
    rw [List.mem_singleton.mp hq]
    refine ⟨hgo, hHa, ha, fun hb => ?_, fun v z => by rw [hgd] at z; cases z⟩
    obtain ⟨_, o, ho, _⟩ := M.i4.stack.mem hb
    exact absurd (Nat.lt_trans (Heap.lt_size ho) M.ga) (Nat.lt_irrefl _)
  have hfa : ∀ b ∈ fp, a ≠ b := fun b hb z => by
    have := (M.fp4 b hb).2
    rw [← z] at this
    exact absurd (Nat.lt_trans this M.ga) (Nat.lt_irrefl _)
  refine wpAny_pure ⟨plainId_quiet F.plain_all_loop _, ?_⟩
  refine drain_all (X := X.gx Ng s4 H4 scope code fp) (σ0 := pick σ mp) (fp := fp) (g := s4.gens.size) (go := go) (fun b H => Q (.bl b) H) hr.hd (by have := hr.dp; omega) (fun h e => ⟨go, nm, qn, e, hgc, hgd, hgs⟩) (fun b pins' σ' H' s' J' q => ?_) (m0 + 1) s5 (pick σ mp) H4 I5 ⟨_, M.gs, rfl, ?_⟩
  · exact ⟨.bl b, H', gx_back M.i4 (fun b hb => (M.fp4 b hb).1) ((J'.pins_of (pins' := []) fun p hp => by cases hp).weak rfl fun _ _ e => e), rfl, q⟩
  · exact gx_begin (X := X.gx Ng s4 H4 scope code fp) (A := X.A.in1.in1) rfl rfl rfl rfl rfl ok.co M.turn (hpg s4 H4 code fp) (hpe s4 H4 code fp) (fun acc pins hci p hp b hb => by rw [hci] at hp; rw [List.mem_singleton.mp hp]; exact hfa b hb) hT rfl
      (inv_same (s' := s5.setGen s4.gens.size .running) I5 rfl rfl (allBare_setGen I5.bare rfl)) M.t5 (fun b hb => (M.fp4 b hb).1.1) w0
end
end GX
/-! GX5: all(..) over data. -/
namespace DL
open PySem PySem.Spec PyProof.Rows L2 GX
def pickS : Option Sl → Sl
  | some (.dat d) => .dat d
  | some (.val v) => .val v
  | some (.hp φ st) => .hp φ st
  | _ => .no
def pickD (ds : List Sl) (mp : List (Option Nat)) : List Sl := mp.map fun o => match o with
  | some i => pickS ds[i]?
  | none => .no
theorem pickS_own {o : Option Sl} {xs : List PyData} : pickS o ≠ .own xs := by
  unfold pickS
  split <;> exact fun z => nomatch z
theorem env_pick {K : PySem.W.Frag} {tb : List Addr} {Hd H : Hp} {σ : L2.St} {ds : List Sl} (E : Env K tb Hd H σ ds) (mp : List (Option Nat)) : Env K tb Hd H (pick σ mp) (pickD ds mp) := by
  refine ⟨by unfold pick pickD; rw [List.length_map, List.length_map], E.dh, E.tb, fun i t e => ?_, fun i j xs ys a n e1 e2 e3 e4 => ?_⟩
  · unfold pickD at e
    unfold pick
    rw [List.getElem?_map] at e ⊢
    cases q : mp[i]? with
    | none => rw [q] at e; cases e
    | some o =>
      rw [q] at e
      cases o with
      | none =>
        cases e
        exact ⟨none, rfl, trivial⟩
      | some k =>
        have e : some (pickS ds[k]?) = some t := e
        have e : pickS ds[k]? = t := Option.some.inj e
        refine ⟨(σ[k]?).join, rfl, ?_⟩
        subst e
        cases q2 : ds[k]? with
        | none => cases (σ[k]?).join <;> trivial
        | some s =>
          cases s with
          | no => cases (σ[k]?).join <;> trivial
          | own xs => cases (σ[k]?).join <;> trivial
          | dat d =>
            obtain ⟨v, h1, h2⟩ := E.dat q2
            rw [h1]
            exact h2
          | val v =>
            have h1 := E.val q2
            rw [h1]
            exact rfl
          | hp φ st =>
            obtain ⟨o, h1, h2⟩ := E.sl k _ q2
            cases o with
            | none => exact h2.elim
            | some v =>
              rw [h1]
              exact h2
  · unfold pickD at e1
    rw [List.getElem?_map] at e1
    cases q : mp[i]? with
    | none => rw [q] at e1; cases e1
    | some o =>
      rw [q] at e1
      cases o with
      | none => cases e1
      | some k => exact pickS_own (Option.some.inj e1)
theorem pick_none {σ : L2.St} {mp : List (Option Nat)} {j : Nat} (h : mp[j]? = some none) : (pick σ mp)[j]? = some none := by
  unfold pick
  rw [List.getElem?_map, h] <;> rfl
theorem holds_set {σ : L2.St} {j : Nat} {v : V} (h : σ[j]? = some none) : Holds σ (σ.set j (some v)) := by
  refine ⟨by rw [List.length_set], fun i u e => ?_⟩
  by_cases q : j = i
  · subst q
    rw [h] at e
    cases e
  · rw [List.getElem?_set_ne q]
    exact e
theorem holds_tr {a b c : L2.St} (h : Holds a b) (k : Holds b c) : Holds a c := ⟨h.1.trans k.1, fun j v e => k.2 j v (h.2 j v e)⟩
/-- what a target does with an item -/
structure TgD (K : PySem.W.Frag) (tb : List Addr) (mp : List (Option Nat)) (g : TG) (dsg : List Sl) (d : PyData) (es : List Sl) : Prop where
  go : ∀ (Hd H : Hp) (σ0 : L2.St) (v : V) (Q : L2.St → Hp → Prop), (∀ j : Nat, mp[j]? = some none → σ0[j]? = some none) → Env K tb Hd H σ0 dsg → Dp K Hd v d → (∀ σ2, Holds σ0 σ2 → Env K tb Hd H σ2 es → Q σ2 H) → g v σ0 H Q
theorem tg_name {K : PySem.W.Frag} {tb : List Addr} {mp : List (Option Nat)} {dsg : List Sl} {d : PyData} (j : Nat) (hj : mp[j]? = some none := by rfl) : TgD K tb mp (gName j) dsg d (dsg.set j (.dat d)) :=
  ⟨fun Hd H σ0 v Q hm E dv q => q _ (holds_set (hm j hj)) (E.set (s := .dat d) dv fun _ z => nomatch z)⟩
theorem tg_pair {K : PySem.W.Frag} {tb : List Addr} {mp : List (Option Nat)} {dsg : List Sl} {d1 d2 : PyData} (i j : Nat) (hi : mp[i]? = some none := by rfl) (hj : mp[j]? = some none := by rfl) (hij : i ≠ j := by decide) :
    TgD K tb mp (gTup K 2 (gCons (gName i) (gCons (gName j) gNil))) dsg (.tuple [d1, d2]) ((dsg.set i (.dat d1)).set j (.dat d2)) :=
  ⟨fun Hd H σ0 v Q hm E dv q => by
    cases dv with
    | @tup A vs _ k1 k2 =>
      cases k2 with
      | cons m1 m2 =>
        cases m2 with
        | cons m3 m4 =>
          cases m4
          refine ⟨A, _, rfl, st_sub E.dh.s k1, rfl, _, _, rfl, _, _, rfl, rfl, q _ (holds_tr (holds_set (hm i hi)) (holds_set ?_)) ((E.set (s := .dat d1) m1 fun _ z => nomatch z).set (s := .dat d2) m3 fun _ z => nomatch z)⟩
          rw [List.getElem?_set_ne hij]
          exact hm j hj⟩
section
variable {X : Cx} {tb : List Addr} {ds : List Sl} {scope : Scope} {Ng : List Str} {mp : List (Option Nat)} {tg elt iter : Expr} {p pos gpos : Pos} {g : TG} {C P : Addr} {k : Nat}
theorem ed_allG {α : Type} (ys : List α) (enc : α → PyData) (pb : α → Bool) (es : α → List Sl) (hP : P ∈ tb) (hr : Room (k + 1) X.A) (hm : X.mg "all" = none) (TB : GxR.TabB X.base X.mg C P) (hcode : X.env.code = .ref C) (ok : GxOk X.N X.env.scope scope Ng mp)
    (hi : PId X tb tg iter ds (ys.map enc)) (hpg : ∀ (s : Shared) (H : Hp) (code : Value) (fp : List Addr), PG (X.gx Ng s H scope code fp) tg g)
    (htg : ∀ y ∈ ys, TgD X.K tb mp g (pickD ds mp) (enc y) (es y))
    (he : ∀ (i : Nat) y, ys[i]? = some y → (∀ z ∈ ys.take i, pb z = true) → ∀ (s : Shared) (H : Hp) (code : Value) (fp : List Addr), PEd (X.gx Ng s H scope code fp) tb elt (es y) (.bool (pb y)))
    (hg : Gl X "all" := by rfl) (hb : bootBuiltins "all" = some (.builtin "all") := by decide +kernel) (hs : ∀ v, genFold iter X.env v = pure v := by intro _; rfl)
    (hst : starEach [.GeneratorExp elt [⟨tg, iter, [], 0⟩] scope gpos] X.env = (false, eval (.GeneratorExp elt [⟨tg, iter, [], 0⟩] scope gpos) X.env) :: starEach [] X.env := by rfl) :
    PEd X tb (.Call (.Name "all" p) [.GeneratorExp elt [⟨tg, iter, [], 0⟩] scope gpos] [] pos) ds (.bool (ys.all pb)) := by
  obtain ⟨wi, p1, q1⟩ := hi
  refine ⟨_, pe_allG (te := fun σ H Q => ∀ (s : Shared) (H' : Hp) (code : Value) (fp : List Addr), wpE (X.gx Ng s H' scope code fp) elt σ H Q) hr hg hm TB hcode ok p1 hpg (fun s H code fp => ⟨fun pins s' σ H' Q I h => pe_can.run pins s' σ H' Q I (h s H code fp)⟩) hb hs hst, fun Hd H σ E Q z => ?_⟩
  refine q1 Hd H σ E _ fun J Hd1 H1 gr wk => ⟨(E.up gr).tb P hP, fun H2 ht => ?_⟩
  have T := (E.up gr).tb P hP
  have g12 : Gr Hd1 H1 Hd1 H2 := Gr.tab gr.h ht T
  have g02 := gr.trans g12
  refine ⟨fun i m _ H' => m = ys.length - i ∧ i ≤ ys.length ∧ (∀ y ∈ ys.take i, pb y = true) ∧ ∃ Hd', Gr Hd1 H2 Hd' H', ⟨ys.length, by simp, Nat.zero_le _, fun y hy => by simp at hy, Hd1, Gr.refl g12.h⟩, ⟨?_⟩⟩
  rintro i m acc H' ⟨rfl, him, hpre, Hd', g'⟩
  have E' : Env X.K tb Hd' H' σ ds := (E.up g02).up g'
  by_cases hlt : i < ys.length
  · have hil : i < (ys.map enc).length := by rw [List.length_map]; exact hlt
    have hy : ys[i]? = some ys[i] := List.getElem?_eq_getElem hlt
    refine .inr ⟨wk.go i Hd' H' g'.d g'.h hil, fun x H2' yl => ?_⟩
    obtain ⟨Hd2, dd, e1, g2, dv⟩ := wk.yl i Hd' H' x H2' g'.d g'.h hil yl
    have ed : dd = enc ys[i] := by
      rw [List.getElem?_map, hy] at e1
      exact (Option.some.inj e1).symm
    subst ed
    refine (htg _ (List.getElem_mem hlt)).go Hd2 H2' (pick σ mp) x _ (fun j hj => pick_none hj) ((env_pick E' mp).up g2) dv fun σ2 hh E2 => ⟨hh, fun s Hx code fp => ?_⟩
    refine (he i ys[i] hy hpre s Hx code fp).can Hd2 H2' σ2 E2 _ fun v Hd3 H3 g3 dv3 => ?_
    cases dv3
    have gg : Gr Hd1 H2 Hd3 H3 := (g'.trans g2).trans g3
    refine ⟨⟨pb ys[i], rfl, fun hf => ?_⟩, fun ht => ⟨ys.length - (i + 1), by omega, rfl, hlt, fun y hy' => ?_, Hd3, gg⟩⟩
    · have ea : ys.all pb = false := by
        cases q : ys.all pb with
        | false => rfl
        | true =>
          have := List.all_eq_true.mp q ys[i] (List.getElem_mem hlt)
          rw [hf] at this
          cases this
      exact z _ Hd3 H3 (g02.trans gg) (by rw [ea]; exact .bl false)
    · rw [List.take_add_one, hy] at hy'
      rcases List.mem_append.mp hy' with q | q
      · exact hpre y q
      · have : y = ys[i] := by simpa using q
        rw [this]
        exact V.bl.inj ht
  · have ei : i = ys.length := by omega
    subst ei
    refine .inl ⟨wk.st _ Hd' H' g'.d g'.h (by rw [List.length_map]; exact Nat.le_refl _), ?_⟩
    have ea : ys.all pb = true := List.all_eq_true.mpr fun y hy => hpre y (by rw [List.take_length]; exact hy)
    exact z _ Hd' H' (g02.trans g') (by rw [ea]; exact .bl true)
end
end DL
/-! DL24: texts in order; min, sorted of texts; list, tuple of lists and tuples; max of two; zip, enumerate, reversed; powers. -/
namespace DL
open PySem PySem.Spec PyProof.Rows L2
/-- the order of texts -/
def ltS (x y : Str) : Bool := decide (x.cps.toList < y.cps.toList)
section
variable {X : Cx} {tb : List Addr} {W : WX'} {ds es : List Sl} {d e f : PyData} {a b : Expr} {pos p : Pos} {K : PySem.W.Frag}
theorem cmp_ltS {x y : Str} : CmpD X tb .Lt (.str x) (.str y) (ltS x y) := ⟨⟨_, op_lt_str, fun Hd H u v D _ dx dy Q q => by
  cases dx
  cases dy
  exact ⟨x, y, rfl, rfl, q _ Hd H (Gr.refl D) (.bl _)⟩⟩⟩
/-- sorted texts: the one arrangement that rises -/
theorem rc_sortedS {xs : List Str} {f : PyData} (hl : xs.length < 64) (h : ∀ ys : List Str, ys.Perm xs → sortedS ys = true → f = .list (ys.map .str)) : RcD K (rSortedS K) [.list (xs.map .str)] f := fun Hd H vs D dx Q q => by
  cases dx with
  | cons h1 h2 =>
    cases h2
    cases h1 with
    | @lst A us _ k1 k2 =>
      have e := dpa_strs k2
      subst e
      refine ⟨A, xs, rfl, sl_sub D.s k1, hl, fun ys p hp hs hn => ?_⟩
      have g := Gr.new (o := .lst (ys.map V.str)) D hn fun _ z => HO.noConfusion z
      refine q _ _ _ g ?_
      rw [h ys hp hs]
      exact .lst (.inl (.inl upd_same)) (strs_dpa ys)
where strs_dpa {K : PySem.W.Frag} {Hd : Hp} : ∀ ys : List Str, DpAll K Hd (ys.map V.str) (ys.map PyData.str)
  | [] => .nil
  | y :: r => .cons (.str y) (strs_dpa r)
theorem ed_sortedS {xs : List Str} {f : PyData} (hm : X.mg "sorted" = none) (ha : PEd X tb a ds (.list (xs.map .str))) (hl : xs.length < 64) (h : ∀ ys : List Str, ys.Perm xs → sortedS ys = true → f = .list (ys.map .str)) (hg : Gl X "sorted" := by rfl) (hs : starEach [a] X.env = [(false, eval a X.env)] := by rfl) :
    PEd X tb (.Call (.Name "sorted" p) [a] [] pos) ds f := ed_callB cr_sortedS (rc_sortedS hl h) hm (by decide +kernel) (ad_cons ha ad_nil hs) hg (by decide) (by decide) hs (by rfl)
theorem rc_list {xs : List PyData} (hd : d = .list xs ∨ d = .tuple xs) : RcD K (fun vs H Q => ∃ p ys, vs = [.ref p] ∧ (SqL K H p ys ∨ SqT K H p ys) ∧ ∀ l, H l = none → Q (.ref l) (upd H l (.lst ys))) [d] (.list xs) := fun Hd H vs D dx Q q => by
  cases dx with
  | cons h1 h2 =>
    cases h2
    rcases hd with rfl | rfl
    · cases h1 with
      | @lst a us _ k1 k2 => exact ⟨a, us, rfl, .inl (sl_sub D.s k1), fun l hl => q _ _ _ (Gr.new D hl fun _ z => HO.noConfusion z) (.lst (.inl (.inl upd_same)) (DpAll.up k2 (Gr.new D hl fun _ z => HO.noConfusion z).d))⟩
    · cases h1 with
      | @tup a us _ k1 k2 => exact ⟨a, us, rfl, .inr (st_sub D.s k1), fun l hl => q _ _ _ (Gr.new D hl fun _ z => HO.noConfusion z) (.lst (.inl (.inl upd_same)) (DpAll.up k2 (Gr.new D hl fun _ z => HO.noConfusion z).d))⟩
theorem rc_tuple {xs : List PyData} (hd : d = .list xs ∨ d = .tuple xs) : RcD K (fun vs H Q => ∃ p ys, vs = [.ref p] ∧ ((SqL K H p ys ∧ ∀ l, H l = none → Q (.ref l) (upd H l (.tup ys))) ∨ (SqT K H p ys ∧ Q (.ref p) H))) [d] (.tuple xs) := fun Hd H vs D dx Q q => by
  cases dx with
  | cons h1 h2 =>
    cases h2
    rcases hd with rfl | rfl
    · cases h1 with
      | @lst a us _ k1 k2 => exact ⟨a, us, rfl, .inl ⟨sl_sub D.s k1, fun l hl => q _ _ _ (Gr.new D hl fun _ z => HO.noConfusion z) (.tup (.inl (.inl upd_same)) (DpAll.up k2 (Gr.new D hl fun _ z => HO.noConfusion z).d))⟩⟩
    · cases h1 with
      | @tup a us _ k1 k2 => exact ⟨a, us, rfl, .inr ⟨st_sub D.s k1, q _ Hd H (Gr.refl D) (.tup k1 k2)⟩⟩
/-- list(e), tuple(e) of a list, a tuple -/
theorem ed_list {xs : List PyData} (hm : X.mg "list" = none) (ha : PEd X tb a ds d) (hd : d = .list xs ∨ d = .tuple xs) (hg : Gl X "list" := by rfl) (hs : starEach [a] X.env = (false, eval a X.env) :: starEach [] X.env := by rfl) : PEd X tb (.Call (.Name "list" p) [a] [] pos) ds (.list xs) :=
  ed_callTy call_list_of (rc_list hd) hm (by decide +kernel) (ad_cons ha ad_nil hs) hg (by decide) (by decide) hs (by rfl)
theorem ed_tuple {xs : List PyData} (hm : X.mg "tuple" = none) (ha : PEd X tb a ds d) (hd : d = .list xs ∨ d = .tuple xs) (hg : Gl X "tuple" := by rfl) (hs : starEach [a] X.env = (false, eval a X.env) :: starEach [] X.env := by rfl) : PEd X tb (.Call (.Name "tuple" p) [a] [] pos) ds (.tuple xs) :=
  ed_callTy call_tuple_of (rc_tuple hd) hm (by decide +kernel) (ad_cons ha ad_nil hs) hg (by decide) (by decide) hs (by rfl)
theorem ed_max2 {i j : Int} (hc : X.calm = true) (hm : X.mg "max" = none) (ha : PEd X tb a ds (.int i)) (hb : PEd X tb b ds (.int j)) (hg : Gl X "max" := by rfl)
    (hs : starEach [a, b] X.env = (false, eval a X.env) :: starEach [b] X.env := by rfl) (hs2 : starEach [b] X.env = (false, eval b X.env) :: starEach [] X.env := by rfl) (hpl : (backTo pos (starEach [b] X.env)).any (·.1) = false := by rfl) :
    PEd X tb (.Call (.Name "max" p) [a, b] [] pos) ds (.int (if j > i then j else i)) :=
  ed_callB (call_max2 hc) (fun Hd H vs D dx Q q => by
    cases dx with
    | cons h1 h2 =>
      cases h2 with
      | cons h3 h4 =>
        cases h4
        cases h1
        cases h3
        exact ⟨i, j, rfl, q _ Hd H (Gr.refl D) (.int _)⟩) hm (by decide +kernel) (ad_cons ha (ad_cons hb ad_nil hs2) hs) hg (by decide) (by decide) hs hpl
theorem ed_min2 {i j : Int} (hc : X.calm = true) (hm : X.mg "min" = none) (ha : PEd X tb a ds (.int i)) (hb : PEd X tb b ds (.int j)) (hg : Gl X "min" := by rfl)
    (hs : starEach [a, b] X.env = (false, eval a X.env) :: starEach [b] X.env := by rfl) (hs2 : starEach [b] X.env = (false, eval b X.env) :: starEach [] X.env := by rfl) (hpl : (backTo pos (starEach [b] X.env)).any (·.1) = false := by rfl) :
    PEd X tb (.Call (.Name "min" p) [a, b] [] pos) ds (.int (if j < i then j else i)) :=
  ed_callB (call_min2 hc) (fun Hd H vs D dx Q q => by
    cases dx with
    | cons h1 h2 =>
      cases h2 with
      | cons h3 h4 =>
        cases h4
        cases h1
        cases h3
        exact ⟨i, j, rfl, q _ Hd H (Gr.refl D) (.int _)⟩) hm (by decide +kernel) (ad_cons ha (ad_cons hb ad_nil hs2) hs) hg (by decide) (by decide) hs hpl
theorem bin_pow {i j : Int} (c : 0 ≤ j ∧ j ≤ 1000000 ∧ i.natAbs < 2 ^ 64) : BinD X tb .Pow (.int i) (.int j) (.int (i ^ j.toNat)) := ⟨⟨_, op_pow, rv_I (C := CPow) (h := fun i j => .int (i ^ j.toNat)) c fun _ => .int _⟩⟩
end
/-! ### what is walked -/
section
variable {X : Cx} {tb : List Addr} {ds : List Sl} {a b : Expr} {pos p tpos : Pos} {elts : List Expr} {kk : Nat}
/-- pairs of the items of two lists -/
def zipD (xs ys : List PyData) : List PyData := (xs.zip ys).map fun p => .tuple [p.1, p.2]
theorem zip_get {xs ys : List PyData} {i : Nat} (h : i < (zipD xs ys).length) : ∃ x y, xs[i]? = some x ∧ ys[i]? = some y ∧ (zipD xs ys)[i]? = some (.tuple [x, y]) := by
  unfold zipD at *
  rw [List.length_map, List.length_zip] at h
  have h1 : i < xs.length := by omega
  have h2 : i < ys.length := by omega
  refine ⟨xs[i], ys[i], List.getElem?_eq_getElem h1, List.getElem?_eq_getElem h2, ?_⟩
  rw [List.getElem?_map, List.getElem?_eq_getElem (by rw [List.length_zip]; omega), List.getElem_zip] <;> rfl
theorem id_zip {xs ys : List PyData} (hm : X.mg "zip" = none) (ha : PEd X tb a ds (.list xs)) (hb : PEd X tb b ds (.list ys)) (hg : Gl X "zip" := by rfl) (hs : starEach [a, b] X.env = (false, eval a X.env) :: starEach [b] X.env := by rfl)
    (hs2 : starEach [b] X.env = (false, eval b X.env) :: starEach [] X.env := by rfl) (hpl : (backTo pos (starEach [b] X.env)).any (·.1) = false := by rfl) : PId X tb (.Tuple elts kk tpos) (.Call (.Name "zip" p) [a, b] [] pos) ds (zipD xs ys) :=
  let ⟨_, p1, q1⟩ := ad_cons ha (ad_cons hb ad_nil hs2) hs; ⟨_, pi_zip hg hm p1 hs hpl, fun Hd H σ E R z => q1 Hd H σ E _ fun vs Hd1 H1 g dv => by
    cases dv with
    | cons h1 h2 =>
      cases h2 with
      | cons h3 h4 =>
        cases h4
        cases h1 with
        | @lst A us _ k1 k2 =>
          cases h3 with
          | @lst B ws _ m1 m2 =>
            refine ⟨A, B, us, ws, rfl, sl_sub g.h.s k1, sl_sub g.h.s m1, z _ Hd1 H1 g ⟨fun i Hd' H' s D hi => ?_, fun i Hd' H' x H'' s D hi y => ?_, fun i Hd' H' s D hi => ?_⟩⟩
            · obtain ⟨x, y, e1, e2, _⟩ := zip_get hi
              obtain ⟨u, f1, _⟩ := dpa_get k2 e1
              obtain ⟨v, f2, _⟩ := dpa_get m2 e2
              exact ⟨us, ws, u, v, sl_sub D.s (sl_sub s k1), sl_sub D.s (sl_sub s m1), f1, f2⟩
            · obtain ⟨x', y', e1, e2, e3⟩ := zip_get hi
              obtain ⟨T, u, v, rfl, hT, rfl, f1, f2⟩ := y
              have f1 := f1 us (sl_sub D.s (sl_sub s k1))
              have f2 := f2 ws (sl_sub D.s (sl_sub s m1))
              obtain ⟨d1, n1, n2⟩ := dpa_get' k2 f1
              obtain ⟨d2, n3, n4⟩ := dpa_get' m2 f2
              rw [e1] at n1
              cases n1
              rw [e2] at n3
              cases n3
              have gn := Gr.new (o := .tup [u, v]) D hT fun _ z => HO.noConfusion z
              exact ⟨_, _, e3, gn, .tup (.inl (.inl upd_same)) (.cons (Dp.up n2 (s.trans gn.d)) (.cons (Dp.up n4 (s.trans gn.d)) .nil))⟩
            · refine ⟨us, ws, sl_sub D.s (sl_sub s k1), sl_sub D.s (sl_sub s m1), ?_⟩
              unfold zipD at hi
              rw [List.length_map, List.length_zip] at hi
              rw [dpa_len k2, dpa_len m2]
              omega⟩
/-- (0, x), (1, y), .. -/
def enumD (xs : List PyData) : List PyData := (List.range xs.length).map fun (i : Nat) => .tuple [.int (i : Int), xs.getD i .none]
theorem id_enum {xs : List PyData} (hm : X.mg "enumerate" = none) (ha : PEd X tb a ds (.list xs)) (hg : Gl X "enumerate" := by rfl) (hs : starEach [a] X.env = (false, eval a X.env) :: starEach [] X.env := by rfl) : PId X tb (.Tuple elts kk tpos) (.Call (.Name "enumerate" p) [a] [] pos) ds (enumD xs) :=
  let ⟨_, p1, q1⟩ := ad_cons ha ad_nil hs; ⟨_, pi_enum hg hm p1 hs, fun Hd H σ E R z => q1 Hd H σ E _ fun vs Hd1 H1 g dv => by
    have ln : (enumD xs).length = xs.length := by unfold enumD; rw [List.length_map, List.length_range]
    cases dv with
    | cons h1 h2 =>
      cases h2
      cases h1 with
      | @lst A us _ k1 k2 =>
        refine ⟨A, us, rfl, sl_sub g.h.s k1, z _ Hd1 H1 g ⟨fun i Hd' H' s D hi => ?_, fun i Hd' H' x H'' s D hi y => ?_, fun i Hd' H' s D hi => ?_⟩⟩
        · rw [ln] at hi
          obtain ⟨u, f1, _⟩ := dpa_get k2 (List.getElem?_eq_getElem hi)
          exact ⟨us, u, sl_sub D.s (sl_sub s k1), f1⟩
        · rw [ln] at hi
          obtain ⟨T, u, rfl, hT, rfl, f1⟩ := y
          have f1 := f1 us (sl_sub D.s (sl_sub s k1))
          obtain ⟨d1, n1, n2⟩ := dpa_get' k2 f1
          have gn := Gr.new (o := .tup [.int (i : Nat), u]) D hT fun _ z => HO.noConfusion z
          refine ⟨_, .tuple [.int (i : Int), d1], ?_, gn, .tup (.inl (.inl upd_same)) (.cons (.int _) (.cons (Dp.up n2 (s.trans gn.d)) .nil))⟩
          unfold enumD
          rw [List.getElem?_map, List.getElem?_range hi]
          show some (PyData.tuple [PyData.int i, xs.getD i PyData.none]) = _
          rw [List.getD_eq_getElem?_getD, n1] <;> rfl
        · rw [ln] at hi
          exact ⟨us, sl_sub D.s (sl_sub s k1), by rw [dpa_len k2]; exact hi⟩⟩
end
end DL
/-! DL25: min of a list of texts; tuple(reversed(a tuple)). -/
namespace DL
open PySem PySem.Spec PyProof.Rows L2
theorem argBest_mem (bt : Nat → Nat → Bool) : ∀ n : Nat, argBest bt n ≤ n
  | 0 => Nat.le_refl _
  | n + 1 => by
    show (if bt (n + 1) (argBest bt n) then n + 1 else argBest bt n) ≤ n + 1
    split
    · exact Nat.le_refl _
    · exact Nat.le_succ_of_le (argBest_mem bt n)
/-- the least of some texts -/
def minS (xs : List Str) : Str := xs.getD (argBest (fun i j => ltS (xs.getD i "") (xs.getD j "")) (xs.length - 1)) ""
theorem minS_mem {xs : List Str} (h : 0 < xs.length) : minS xs ∈ xs := by
  have hb := argBest_mem (fun i j => ltS (xs.getD i "") (xs.getD j "")) (xs.length - 1)
  unfold minS
  rw [List.getD_eq_getElem?_getD, List.getElem?_eq_getElem (by omega)]
  exact List.getElem_mem _
section
variable {prog : Program} {w : World} {A : Around} {E : Value → Shared → Prop} {s : Shared}
theorem min_strList {l : Addr} {its : List Value} {xs : List Str} {Q : Value → Shared → Prop} (hh : A.handled = none) (hl : s.heap.IsList l its.toArray) (hv : Vals (xs.map V.str) its) (hne : 0 < xs.length)
    (h : ∀ v h' tk, RelV (.str (minS xs)) v → (∀ b o, s.heap.get? b = some o → h'.get? b = some o) → Q v { s with heap := h', toks := tk }) :
    wpAny (model prog w) A (call (.builtin "min") [.ref l]) Q E s := by
  have ln := hv.length
  rw [List.length_map] at ln
  have at_ : ∀ {i : Nat} {v : Value}, its.toArray[i]? = some v → ∃ t, v = .str (xs.getD i "") t := fun {i v} e => by
    have e : its[i]? = some v := by simpa using e
    have hi : i < xs.length := by
      have := (List.getElem?_eq_some_iff.mp e).1
      omega
    obtain ⟨u, h1, h2⟩ := hv.get (i := i) (x := .str xs[i]) (by rw [List.getElem?_map, List.getElem?_eq_getElem hi] <;> rfl)
    rw [e] at h1
    cases h1
    obtain ⟨t, e2⟩ := h2
    refine ⟨t, ?_⟩
    rw [e2, List.getD_eq_getElem?_getD, List.getElem?_eq_getElem hi] <;> rfl
  refine call_min_walk ?_
  obtain ⟨o, ho, _⟩ := id hl
  refine wpAny_pyIter_list hl ?_
  refine ⟨_, _, _, _, _, _, fun i j => ltS (xs.getD i "") (xs.getD j ""), rfl, Walks.list (A := A.in1) hh s.heap.objs.size l (Nat.ne_of_lt (Heap.lt_size ho)) its.toArray, ?_, ?_, ?_, ?_, fun v h' tk hP hk => ?_⟩
  · exact ⟨⟨_, Heap.get?_push_size _ rfl, rfl, rfl⟩, hl.push _⟩
  · intro b hb
    show b < (s.heap.push _).objs.size
    rw [Heap.size_push]
    rcases List.mem_cons.mp hb with rfl | hb
    · exact Nat.lt_succ_self _
    · rw [List.mem_singleton.mp hb]
      exact Nat.lt_succ_of_lt (Heap.lt_size ho)
  · rw [List.size_toArray]
    omega
  · intro i j vi vj s2 Q2 E2 hi hj hQ
    obtain ⟨t1, e1⟩ := at_ hi
    obtain ⟨t2, e2⟩ := at_ hj
    subst e1 e2
    exact PySem.P.lt_str hQ
  · obtain ⟨t, e⟩ := at_ hP
    rw [List.size_toArray, ← ln] at e
    refine h v h' tk ⟨t, e⟩ (fun b o eb => hk b o ?_ (Heap.get?_push_of_some _ eb))
    intro hm
    rw [List.mem_singleton.mp hm] at eb
    exact absurd (Heap.lt_size eb) (Nat.lt_irrefl _)
end
section
variable {X : Cx} {tb : List Addr} {ds : List Sl} {a : Expr} {pos p : Pos}
def rMinS (K : PySem.W.Frag) : List V → Hp → VK → Prop := fun vs H Q => ∃ (a : Addr) (xs : List Str), vs = [V.ref a] ∧ SqL K H a (xs.map V.str) ∧ 0 < xs.length ∧ Q (.str (minS xs)) H
theorem cr_minS (hc : X.calm = true) : CallR X (.builtin "min") (rMinS X.K) := by
  intro pins s σ H vs us Q I r h
  obtain ⟨a, xs, rfl, hs, hne, q⟩ := h
  obtain ⟨its, rv, hl, _⟩ := I.list hs
  rw [Vals.ref1 r]
  exact min_strList (I.ok.hd hc) hl.isList rv hne fun v h' tk rv2 hk => ⟨.str _, H, I.kept hk, rv2, q⟩
theorem ed_minS {xs : List Str} (hc : X.calm = true) (hm : X.mg "min" = none) (ha : PEd X tb a ds (.list (xs.map .str))) (h : 0 < xs.length) (hg : Gl X "min" := by rfl) (hs : starEach [a] X.env = [(false, eval a X.env)] := by rfl) : PEd X tb (.Call (.Name "min" p) [a] [] pos) ds (.str (minS xs)) :=
  ed_callB (cr_minS hc) (fun Hd H vs D dx Q q => by
    cases dx with
    | cons h1 h2 =>
      cases h2
      cases h1 with
      | @lst A us _ k1 k2 =>
        have e := dpa_strs k2
        subst e
        exact ⟨A, xs, rfl, sl_sub D.s k1, h, q _ Hd H (Gr.refl D) (.str _)⟩) hm (by decide +kernel) (ad_cons ha ad_nil hs) hg (by decide) (by decide) hs (by rfl)
end
/-! ### the order of texts -/
theorem ltS_irr (x : Str) : ltS x x = false := decide_eq_false (List.lt_irrefl _)
theorem ltS_tr {x y z : Str} (h : ltS x y = true) (k : ltS y z = true) : ltS x z = true := decide_eq_true (List.lt_trans (of_decide_eq_true h) (of_decide_eq_true k))
theorem str_ext {x y : Str} (h : x.cps.toList = y.cps.toList) : x = y := by
  cases x
  cases y
  exact congrArg _ (Array.toList_inj.mp h)
theorem ltS_tot (x y : Str) : ltS x y = true ∨ x = y ∨ ltS y x = true := by
  rcases (Nat.lt_trichotomy 0 0) with _ | _ | _
  all_goals first
    | exact absurd (by assumption) (Nat.lt_irrefl _)
    | skip
  by_cases h : x.cps.toList < y.cps.toList
  · exact .inl (decide_eq_true h)
  · by_cases k : y.cps.toList < x.cps.toList
    · exact .inr (.inr (decide_eq_true k))
    · exact .inr (.inl (str_ext (List.le_antisymm (List.not_lt.mp k) (List.not_lt.mp h))))
/-- rising: none is less than one ahead of it -/
def risesS (l : List Str) : Prop := l.Pairwise fun x y => ltS y x = false
theorem ltS_le_tr {x y z : Str} (h : ltS y x = false) (k : ltS z y = false) : ltS z x = false := by
  cases q : ltS z x with
  | false => rfl
  | true =>
    rcases ltS_tot x y with r | r | r
    · have := ltS_tr q r
      rw [k] at this
      cases this
    · subst r
      rw [k] at q
      cases q
    · rw [h] at r
      cases r
end DL
/-! DL26: sorted texts, as a function. -/
namespace DL
open PySem PySem.Spec PyProof.Rows L2
theorem rises_cons {x y : Str} {l : List Str} (h : ltS y x = false) (k : risesS (y :: l)) : risesS (x :: y :: l) := by
  obtain ⟨k1, k2⟩ := List.pairwise_cons.mp k
  refine List.pairwise_cons.mpr ⟨fun z hz => ?_, k⟩
  rcases List.mem_cons.mp hz with rfl | hz
  · exact h
  · exact ltS_le_tr h (k1 z hz)
theorem rising_rises : ∀ (l : List Str) (x : Str), risingS x l = true → risesS (x :: l)
  | [], x, _ => List.pairwise_singleton _ _
  | y :: l, x, h => by
    have h : (!ltCps y.cps.toList x.cps.toList && risingS y l) = true := h
    obtain ⟨h1, h2⟩ := Bool.and_eq_true_iff.mp h
    refine rises_cons ?_ (rising_rises l y h2)
    cases q : ltS y x with
    | false => rfl
    | true =>
      have : ltCps y.cps.toList x.cps.toList = true := by
        have q : decide (y.cps.toList < x.cps.toList) = true := q
        rw [PyProof.Rows.ltCps_eq]
        exact q
      rw [this] at h1
      cases h1
theorem sorted_rises : ∀ {l : List Str}, sortedS l = true → risesS l
  | [], _ => .nil
  | x :: l, h => rising_rises l x h
theorem rises_uniq : ∀ {l k : List Str}, l.Perm k → risesS l → risesS k → l = k
  | [], k, p, _, _ => (List.nil_perm.mp p).symm
  | x :: l, k, p, h1, h2 => by
    cases k with
    | nil => exact absurd p.length_eq (by simp)
    | cons y k =>
      obtain ⟨a1, a2⟩ := List.pairwise_cons.mp h1
      obtain ⟨b1, b2⟩ := List.pairwise_cons.mp h2
      have e : x = y := by
        rcases List.mem_cons.mp (p.subset List.mem_cons_self) with e | hx
        · exact e
        · rcases List.mem_cons.mp (p.symm.subset List.mem_cons_self) with e | hy
          · exact e.symm
          · have c1 := b1 x hx
            have c2 := a1 y hy
            rcases ltS_tot x y with q | q | q
            · rw [q] at c1
              cases c1
            · exact q
            · rw [q] at c2
              cases c2
      subst e
      rw [rises_uniq (List.perm_cons x |>.mp p) a2 b2]
def leS (x y : Str) : Bool := !ltS y x
def sortS (xs : List Str) : List Str := xs.mergeSort leS
theorem sortS_perm (xs : List Str) : (sortS xs).Perm xs := List.mergeSort_perm _ _
theorem sortS_rises (xs : List Str) : risesS (sortS xs) := by
  have h := List.pairwise_mergeSort (le := leS) (fun a b c h k => by
    have h : (!ltS b a) = true := h
    have k : (!ltS c b) = true := k
    rw [Bool.not_eq_true'] at h k
    show (!ltS c a) = true
    rw [ltS_le_tr h k] <;> rfl) (fun a b => by
    show (!ltS b a || !ltS a b) = true
    rcases ltS_tot a b with q | q | q
    · have : ltS b a = false := by
        cases r : ltS b a with
        | false => rfl
        | true =>
          have := ltS_tr q r
          rw [ltS_irr] at this
          cases this
      rw [this] <;> rfl
    · subst q
      rw [ltS_irr] <;> rfl
    · have : ltS a b = false := by
        cases r : ltS a b with
        | false => rfl
        | true =>
          have := ltS_tr q r
          rw [ltS_irr] at this
          cases this
      rw [this, Bool.or_comm] <;> rfl) xs
  exact h.imp fun {a b} hab => by
    have hab : (!ltS b a) = true := hab
    rwa [Bool.not_eq_true'] at hab
theorem sortS_len (xs : List Str) : (sortS xs).length = xs.length := (sortS_perm xs).length_eq
theorem sortS_mem {xs : List Str} {x : Str} : x ∈ sortS xs ↔ x ∈ xs := (sortS_perm xs).mem_iff
section
variable {X : Cx} {tb : List Addr} {ds : List Sl} {a : Expr} {pos p : Pos}
theorem ed_sortS {xs : List Str} (hm : X.mg "sorted" = none) (ha : PEd X tb a ds (.list (xs.map .str))) (hl : xs.length < 64) (hg : Gl X "sorted" := by rfl) (hs : starEach [a] X.env = [(false, eval a X.env)] := by rfl) :
    PEd X tb (.Call (.Name "sorted" p) [a] [] pos) ds (.list ((sortS xs).map .str)) :=
  ed_sortedS hm ha hl (fun ys hp hr => by rw [rises_uniq (hp.trans (sortS_perm xs).symm) (sorted_rises hr) (sortS_rises xs)]) hg hs
end
end DL
/-! DL27: tuple(reversed(a tuple)). -/
namespace DL
open PySem PySem.Spec PyProof.Rows L2 RT
theorem nolen_rv : typeLookup (.type "reversed") "__len__" = pure none := by rw [typeLookup_type, builtinLookup_eq_fast]; kernel_rfl
theorem hint_rv : typeLookup (.type "reversed") "__length_hint__" = pure (some (.builtin "reversed.__length_hint__")) := by rw [typeLookup_type, builtinLookup_eq_fast]; kernel_rfl
theorem slot_rv_hint : Slot "reversed" "__length_hint__" "reversed.__length_hint__" :=
  .of (owner := "reversed") (n := "__length_hint__") (by rw [typeLookup_type, builtinLookup_eq_fast]; kernel_rfl) (by decide +kernel) (by decide +kernel) (by decide +kernel)
    (by first | exact .inl (by decide +kernel) | exact .inr (by decide +kernel)) (by rw [isSubtype_type]; kernel_rfl)
theorem entry_rv_hint : entryFor table "reversed.__length_hint__" = some Builtin.«reversed.__length_hint__» := entryFor_of_tree (by kernel_rfl)
theorem args_rv_hint (a : Value) : argsOk "reversed.__length_hint__" ⟨[a], []⟩ := by
  unfold argsOk; rw [signature?_of (id := "reversed.__length_hint__") (n := ['_', '_', 't', 'n', 'i', 'h', '_', 'h', 't', 'g', 'n', 'e', 'l', '_', '_']) (o := ['d', 'e', 's', 'r', 'e', 'v', 'e', 'r']) (by kernel_rfl) owner_rt]; kernel_rfl
theorem type_rv_hint : typeOf (.builtin "reversed.__length_hint__") = pure (.type "method_descriptor") := by first | kernel_rfl | rfl
section
variable {prog : Program} {w : World} {A : Around} {E : Value → Shared → Prop} {s : Shared}
theorem walks_rt (hh : A.handled = none) (I t : Addr) (hne : t ≠ I) (items : Array Value) (hz : items.size ≤ sizeLine) : Walks prog w A I [I, t] [I] items.size (fun i v => items[items.size - 1 - i]? = some v) (fun i h => i ≤ items.size ∧ IsRt h I t ((items.size : Int) - 1 - (i : Int)) ∧ IsTup h t items) where
  sub := fun b hb => by simp at hb; simp [hb]
  frame := fun _ _ _ x hk => ⟨x.1, x.2.1.at fun o e => hk I (by simp) o e, let ⟨o, ho, r⟩ := x.2.2; ⟨o, hk t (by simp) o ho, r⟩⟩
  item := fun i s Q E hi x hQ => by
    have e : (items.size : Int) - 1 - (i : Int) = ((items.size - 1 - i : Nat) : Int) := by omega
    have hit := x.2.1
    rw [e] at hit
    have hx : items[items.size - 1 - i]? = some (items[items.size - 1 - i]'(by omega)) := Array.getElem?_eq_getElem (by omega)
    refine next_rt_item hit x.2.2 hx hz fun h' hit' hs' => ?_
    have e2 : ((items.size - 1 - i : Nat) : Int) - 1 = (items.size : Int) - 1 - ((i + 1 : Nat) : Int) := by omega
    rw [e2] at hit'
    exact hQ _ h' (s.toks + 1) hx ⟨hi, hit', let ⟨o, ho, r⟩ := x.2.2; ⟨o, (hs'.2 t hne).trans ho, r⟩⟩ fun b o hb eo => hs'.extBut b o (fun h => hb (by simp [h])) eo
  done := fun s Q E x hQ => by
    have e : (items.size : Int) - 1 - (items.size : Int) = -1 := by omega
    have hit := x.2.1
    rw [e] at hit
    exact next_rt_end hh hit fun h' he' => hQ h' s.toks fun b o hb eo => he' b o (fun h => hb (by simp [h])) eo
  self := fun _ _ _ _ x hQ => iter_rt x.2.1 hQ
theorem hint_call {I t : Addr} {items : Array Value} {Q : Value → Shared → Prop} (hit : IsRt s.heap I t ((items.size : Int) - 1)) (ht : IsTup s.heap t items) (hz : items.size ≤ sizeLine) (hQ : ∀ u tk, Q (.int (items.size : Int) u) { s with toks := tk }) :
    wpAny (model prog w) A (call (.builtin "reversed.__length_hint__") [.ref I]) Q E s := by
  obtain ⟨o, ho, hc, hd⟩ := id hit
  have hn := line63
  refine wpAny_call_entry slot_rv_hint hit.typeIs entry_rv_hint ?_ (args_rv_hint _)
  unfold Builtin.«reversed.__length_hint__»
  refine wpAny_bind (wpAny_of_eq (a := Value.ref I) (by first | rfl | kernel_rfl) ?_)
  refine wpAny_bind (wpAny_field ho hd (x := .ref t) rfl ?_)
  try dsimp only
  rw [if_neg (show ¬ ((Value.ref t == Value.none) = true) from Bool.false_ne_true)]
  refine wpAny_bind (len_tuple ht (by omega) ?_)
  refine wpAny_bind (m := asInt? _) (wpAny_pure ?_)
  try dsimp only
  refine wpAny_bind (wpAny_field (s := { s with toks := _ }) ho hd (x := rawInt ((items.size : Int) - 1)) rfl ?_)
  show wpAny _ _ (if (items.size : Int) < (items.size : Int) - 1 + 1 then _ else _) _ _ _
  rw [if_neg (by omega)]
  try unfold retInt
  refine wpAny_bind (wpAny_mkInt ?_)
  have e : (items.size : Int) - 1 + 1 = items.size := by omega
  rw [e]
  exact wpAny_pure ⟨_, rfl, hQ _ _⟩
theorem collect_rt {I t : Addr} {items : Array Value} {Q : List Value → Shared → Prop} (hh : A.handled = none) (hit : IsRt s.heap I t ((items.size : Int) - 1)) (ht : IsTup s.heap t items) (hne : t ≠ I) (hn : items.size ≤ sizeLine)
    (hQ : ∀ (h' : Heap) (tk : Nat) (acc : Array Value), (∀ b o, b ≠ I → s.heap.get? b = some o → h'.get? b = some o) → ItemsOf (fun i v => items[items.size - 1 - i]? = some v) acc items.size → Q acc.toList { s with heap := h', toks := tk }) :
    wpAny (model prog w) A (collect (.ref I)) Q E s := by
  have W := (walks_rt (prog := prog) (w := w) (A := A.in1) hh I t hne items hn).toS
  obtain ⟨oi, hoi, _⟩ := id hit
  obtain ⟨ol, hol, _⟩ := id ht
  have hSi : s.heap.objs.size ≠ I := Nat.ne_of_gt (Heap.lt_size hoi)
  have hSl : s.heap.objs.size ≠ t := Nat.ne_of_gt (Heap.lt_size hol)
  have hSf : s.heap.objs.size ∉ [I, t] := by simp only [List.mem_cons, List.not_mem_nil, or_false, not_or]; exact ⟨hSi, hSl⟩
  unfold collect
  refine wpAny_bind (wpAny_runValue (codeAny_builtin F.entry_proto_collect ?_))
  rw [Around.under_plainId F.plain_proto_collect _]
  show wpAny _ A.in1 (newList [] >>= fun l' => again (.builtin "list.__iadd__" ⟨[l', .ref I], []⟩)) _ _ s
  refine wpAny_bind (wpAny_newObj_type ?_)
  refine wpAny_pure ⟨plainId_quiet F.plain_list_iadd _, codeAny_builtin F.entry_list_iadd ?_⟩
  rw [Around.under_plainId F.plain_list_iadd _]
  have hS₁ : (s.heap.push { cls := .type "list", data := .seq ([] : List Value).toArray }).get? s.heap.objs.size = some { cls := .type "list", data := .seq ([] : List Value).toArray } := Heap.get?_push_size _ rfl
  have hit1 : IsRt (s.heap.push { cls := .type "list", data := .seq ([] : List Value).toArray }) I t ((items.size : Int) - 1) := hit.at fun o e => Heap.get?_push_of_some _ e
  have ht1 : IsTup (s.heap.push { cls := .type "list", data := .seq ([] : List Value).toArray }) t items := ht.push _
  have hT : ({ s with heap := s.heap.push { cls := .type "list", data := .seq ([] : List Value).toArray } } : Shared).TypeIs (.ref I) "reversed" := IsRt.typeIs (s := { s with heap := s.heap.push { cls := .type "list", data := .seq ([] : List Value).toArray } }) hit1
  have h1 : Builtin.List.listSameRef (.ref s.heap.objs.size) (.ref I) = false := by simp [Builtin.List.listSameRef, hSi]
  show wpAny _ A.in1 (Builtin.List.listExtendWith (.ref s.heap.objs.size) (.ref I) (.ref s.heap.objs.size)) _ _ _
  unfold Builtin.List.listExtendWith
  refine wpAny_bind (wpAny_typeOf hT ?_)
  rw [if_neg (by rw [h1]; decide)]
  refine wpAny_bind (iter_rt (s := { s with heap := s.heap.push { cls := .type "list", data := .seq ([] : List Value).toArray } }) hit1 ?_)
  refine wpAny_bind (wpAny_holding ?_)
  unfold Builtin.List.listLengthHint
  refine wpAny_bind (wpAny_specialOf hT nolen_rv ?_)
  show wpAny _ A.in1 (specialOf (Value.ref I) (Str.ofString "__length_hint__") >>= _) _ _ _
  refine wpAny_bind (wpAny_specialOf hT hint_rv ?_)
  generalize hid : ("reversed.__length_hint__" : String) = id0
  wp_delta
  rw [show splitId id0 = some ("reversed", "__length_hint__") from by subst hid; decide +kernel]
  subst hid
  refine wpAny_bind (wpAny_isInstance (b := true) hT (by rw [isSubtype_type]; kernel_rfl) ?_)
  have big : Builtin.List.listTooLong ((items.size : Int)).toNat = false := by
    first
      | exact notLongL (by simpa using hn)
      | (rw [Int.toNat_natCast]; exact notLongL hn)
  show wpAny _ A.in1 (rule "list.length-hint.hint" >>= fun _ => bindSpecial (.builtin "reversed.__length_hint__") (.ref I) >>= _) _ _ _
  refine wpAny_bind (wpAny_rule (wpAny_bind ?_))
  unfold bindSpecial
  rw [type_rv_hint]
  refine wpAny_bind (wpAny_pure ?_)
  rw [if_pos (by decide)]
  refine wpAny_pure ?_
  refine wpAny_bind (wpAny_attempt (hint_call (s := { s with heap := s.heap.push { cls := .type "list", data := .seq ([] : List Value).toArray } }) hit1 ht1 hn fun u tk => ?_))
  try dsimp only
  generalize hkk : (items.size : Int) = kk
  refine wpAny_bind (m := asInt? (.int kk u)) (wpAny_pure ?_)
  subst hkk
  try dsimp only
  have fit : Builtin.List.listFitsIndex (items.size : Int) = true := by
    unfold Builtin.List.listFitsIndex
    have := line63
    exact Bool.and_eq_true_iff.mpr ⟨decide_eq_true (by omega), decide_eq_true (by omega)⟩
  rw [if_neg (by rw [fit]; decide), if_neg (by omega), if_neg (by rw [big]; decide)]
  refine wpAny_pure ?_
  have e0 : ((items.size : Nat) : Int) - 1 - ((0 : Nat) : Int) = (items.size : Int) - 1 := by omega
  have loop : ∀ (h2 : Heap) (c2 : Nat) (tk2 : Nat), (∀ b o, b ≠ s.heap.objs.size → s.heap.get? b = some o → h2.get? b = some o) → h2.get? s.heap.objs.size = some { cls := .type "list", data := .seq (#[] : Array Value) c2 } →
      codeAny (model prog w) A (.builtin "list.extend.loop" ⟨[.ref s.heap.objs.size, .ref I, .ref s.heap.objs.size], []⟩) (fun r s' => ∃ acc' c', r = .ok (.ret (.ref s.heap.objs.size)) ∧ s'.heap.get? s.heap.objs.size = some { cls := .type "list", data := .seq acc' c' } ∧ ItemsOf (fun i v => items[items.size - 1 - i]? = some v) acc' items.size ∧
        ∃ h' tk, s' = { s with heap := h', toks := tk } ∧ ∀ b o, b ≠ I → s.heap.get? b = some o → h'.get? b = some o) { s with heap := h2, toks := tk2 } := by
    intro h2 c2 tk2 hk2 hS2
    have hit2 : IsRt h2 I t ((items.size : Int) - 1) := hit.at fun o e => hk2 _ o (Ne.symm hSi) e
    have ht2 : IsTup h2 t items := let ⟨o, ho, r⟩ := ht; ⟨o, hk2 _ o (Ne.symm hSl) ho, r⟩
    refine codeAny_extend_loopS W hn _ hSf _ items.size 0 _ _ _ rfl (Nat.zero_le _) ⟨Nat.zero_le _, by rw [e0]; exact hit2, ht2⟩ hS2 (ItemsOf.nil _) fun s' acc' c' hm hS' hacc => ?_
    refine ⟨acc', c', rfl, hS', hacc, s'.heap, s'.toks, by have := Moved.eq_with hm; rw [this], fun b o hb e => ?_⟩
    refine hm.heap b o (fun hmem => ?_) (hk2 b o (Nat.ne_of_lt (Heap.lt_size e)) e)
    rcases List.mem_cons.mp hmem with e' | hmem
    · exact absurd (Heap.lt_size e) (by rw [e']; exact Nat.lt_irrefl _)
    · exact hb (List.mem_singleton.mp hmem)
  have fin : ∀ (h2 : Heap) (c2 : Nat) (tk2 : Nat), (∀ b o, b ≠ s.heap.objs.size → s.heap.get? b = some o → h2.get? b = some o) → h2.get? s.heap.objs.size = some { cls := .type "list", data := .seq (#[] : Array Value) c2 } →
      codeAny (model prog w) A (.builtin "list.extend.loop" ⟨[.ref s.heap.objs.size, .ref I, .ref s.heap.objs.size], []⟩) (fun r s' => match r with
        | .ok (.ret v) => wpAny (model prog w) A (match v with
          | .ref a => do
            match (← load a).data with
            | .seq xs _ => pure xs.toList
            | _ => unsupported "internal:collect"
          | _ => unsupported "internal:collect") Q E s'
        | .ok _ => False
        | .error e => E e s') { s with heap := h2, toks := tk2 } := fun h2 c2 tk2 hk2 hS2 => by
    refine codeAny_mono (loop h2 c2 tk2 hk2 hS2) fun r s' ⟨acc', c', hr, hS', hacc, h', tk, es, hk⟩ => ?_
    subst hr
    show wpAny _ A (load s.heap.objs.size >>= _) _ _ s'
    refine wpAny_bind (wpAny_load hS' ?_)
    refine wpAny_pure ?_
    rw [es]
    exact hQ h' tk acc' hk hacc
  split
  · refine wpAny_bind (wpAny_rule ?_)
    refine wpAny_bind ?_
    show wpAny _ A.in1 (updateSeq s.heap.objs.size (·.push .none) >>= fun _ => updateSeq s.heap.objs.size (·.pop)) _ _ _
    refine wpAny_bind (wpAny_updateSeq (hz := Nat.zero_le _) (_hz' := Nat.le_add_left 1 _) hS₁ rfl ?_)
    have hS3 := Heap.get?_update_self (Obj.mapSeq (·.push Value.none)) hS₁ rfl
    have one : 1 ≤ sizeLine := by rw [sizeLine_eq]; decide
    refine wpAny_updateSeq (hz := one) (_hz' := Nat.zero_le _) hS3 rfl ?_
    have hS4 := Heap.get?_update_self (Obj.mapSeq (·.pop)) hS3 rfl
    refine wpAny_pure ⟨plainId_quiet F.plain_extend_loop _, fin _ _ _ (fun b o hb e => ?_) hS4⟩
    exact (Heap.get?_update_other _ _ (Ne.symm hb)).trans ((Heap.get?_update_other _ _ (Ne.symm hb)).trans (Heap.get?_push_of_some _ e))
  · exact wpAny_pure ⟨plainId_quiet F.plain_extend_loop _, fin _ _ _ (fun b o hb e => Heap.get?_push_of_some _ e) hS₁⟩
end
end DL
/-! DL28: tuple(reversed(a tuple)) over data. -/
namespace DL
open PySem PySem.Spec PyProof.Rows L2 RT
section
variable {prog : Program} {w : World} {A : Around} {E : Value → Shared → Prop} {s : Shared}
theorem code_tuple_new_rt {it t : Addr} {items : Array Value} {Q₁ : Value → Shared → Prop} (hh : A.handled = none) (hit : IsRt s.heap it t ((items.size : Int) - 1)) (ht : IsTup s.heap t items) (hne : t ≠ it) (hn : items.size ≤ sizeLine)
    (h : ∀ (h' : Heap) (tk : Nat) (acc : Array Value), (∀ b o, b ≠ it → s.heap.get? b = some o → h'.get? b = some o) → ItemsOf (fun i v => items[items.size - 1 - i]? = some v) acc items.size →
      Q₁ (.ref h'.objs.size) { s with heap := h'.push { cls := .type "tuple", data := .seq acc }, toks := tk }) :
    codeAny (model prog w) A (.call (.builtin "tuple.__new__") ⟨[.type "tuple", .ref it], []⟩) (wants Q₁ E) s := by
  refine codeAny_of_tree ?_
  show wpAny _ A.in1 (do checkBuiltinCall "tuple.__new__" ⟨[.type "tuple", .ref it], []⟩; again (.builtin "tuple.__new__" ⟨[.type "tuple", .ref it], []⟩)) _ _ s
  refine wpAny_bind (wpAny_of_eq (F.newCall_tuple_1 _) (wpAny_pure ⟨plainId_quiet F.plain_tuple_new _, codeAny_builtin F.entry_tuple_new ?_⟩))
  rw [Around.under_plainId F.plain_tuple_new _]
  have hsub := sub_tuple_self
  have hinit := init_tuple_lookup
  have hmh := madeHere_tuple
  have hTI : s.TypeIs (.ref it) "reversed" := hit.typeIs
  have hh1 : A.in1.handled = none := hh
  wp_walk using wpAny_typeOf hTI, collect_rt (A := A.in1) hh1 hit ht hne hn
  intro h' tk acc hk hacc
  show wpAny _ _ (Builtin.Tuple.tupleExact acc.toList.toArray >>= fun v => ret v) _ _ _
  unfold Builtin.Tuple.tupleExact
  refine wpAny_bind (wpAny_newObj_type ?_ (by show acc.toList.toArray.size ≤ sizeLine; simp only [Array.toArray_toList]; rw [hacc.1]; exact hn))
  refine wpAny_pure ?_
  have e : acc.toList.toArray = acc := by simp
  rw [e]
  exact h h' tk acc hk hacc
theorem call_tuple_rt {it t : Addr} {items : Array Value} {Q : Value → Shared → Prop} (hh : A.handled = none) (hit : IsRt s.heap it t ((items.size : Int) - 1)) (ht : IsTup s.heap t items) (hne : t ≠ it) (hn : items.size ≤ sizeLine)
    (hQ : ∀ (h' : Heap) (tk : Nat) (acc : Array Value), (∀ b o, b ≠ it → s.heap.get? b = some o → h'.get? b = some o) → ItemsOf (fun i v => items[items.size - 1 - i]? = some v) acc items.size →
      Q (.ref h'.objs.size) { s with heap := h'.push { cls := .type "tuple", data := .seq acc }, toks := tk }) :
    wpAny (model prog w) A (call (.type "tuple") [.ref it]) Q E s := by
  refine callType_codes (Q₁ := fun obj s₁ => s₁.TypeIs obj "tuple" ∧ Q obj s₁) F.called_tuple (F.typeCall_tuple_1 _) F.entry_object_init
    (code_tuple_new_rt (A := A.in1) hh hit ht hne hn fun h' tk acc hk hacc => ⟨⟨_, Heap.get?_push_size _ rfl, rfl⟩, hQ h' tk acc hk hacc⟩) fun obj s₁ h₁ => ?_
  exact ⟨h₁.1, F.args_object_init_2 obj _, object_init_meets F.called_tuple.init.lookup F.called_tuple.made (by decide) prog w A.in1 _ s₁ ⟨h₁.1, rfl, h₁.2⟩⟩
end
section
variable {X : Cx} {tb : List Addr} {ds : List Sl}
def tTupRevT (K : PySem.W.Frag) (te : TE) : TE := fun σ H Q => te σ H fun v H1 => ∃ (a : Addr) (xs : List V), v = .ref a ∧ SqT K H1 a xs ∧ ∀ q, H1 q = none → Q (.ref q) (upd H1 q (.tup xs.reverse))
theorem pe_tupRevT {e : Expr} {te : TE} {p p2 pos pos2 : Pos} (hc : X.calm = true) (hg : Gl X "tuple") (hm : X.mg "tuple" = none) (hg2 : Gl X "reversed") (hm2 : X.mg "reversed" = none) (he : PE X e te)
    (hs : starEach [e] X.env = (false, eval e X.env) :: starEach [] X.env := by rfl)
    (hs2 : starEach [.Call (.Name "reversed" p2) [e] [] pos2] X.env = (false, eval (.Call (.Name "reversed" p2) [e] [] pos2) X.env) :: starEach [] X.env := by rfl) :
    PE X (.Call (.Name "tuple" p) [.Call (.Name "reversed" p2) [e] [] pos2] [] pos) (tTupRevT X.K te) := by
  refine ⟨fun pins s σ H Q I h => ?_⟩
  refine Call_ (ld_blt I hg hm boot_tuple (PyProof.Rows.callWith_type1 (args_cons (Call_ (ld_blt I hg2 hm2 PyProof.Rows.boot_reversed (PyProof.Rows.callWith_type1 (args_cons (thn (he.run pins s σ H _ I h) fun u s1 ⟨v, H1, I1, r1, q1⟩ => args_nil ?_) hs) hs rfl))) hs2) hs2 rfl))
  obtain ⟨a, xs, ev, hq, q⟩ := q1
  subst ev
  obtain rfl : u = Value.ref a := r1
  obtain ⟨its, rv, p', hz⟩ := I1.tuple hq
  have hl := rv.length
  have hn := line63
  refine call_reversed_tup p' (fun A E Q k => len_tuple p' (by simp only [List.size_toArray] <;> omega) k) (args_nil ?_)
  have k0 : ∀ b o, s1.heap.get? b = some o → (s1.heap.push (rtObj a ((its.toArray.size : Int) - 1))).get? b = some o := fun b o e => Heap.get?_push_of_some _ e
  have I2 : Inv X pins σ H1 { s1 with heap := s1.heap.push (rtObj a ((its.toArray.size : Int) - 1)), toks := s1.toks + 1 + 1 } := I1.kept (t' := s1.toks + 1 + 1) k0
  obtain ⟨f0, f1, f2, f3, f4, f5⟩ := I1.fpOk (H' := H1) (b := s1.heap.objs.size) (Nat.le_refl _) (I1.hok.fresh (Nat.le_refl _))
  obtain ⟨ol, hol, _⟩ := id p'
  have hne : a ≠ s1.heap.objs.size := Nat.ne_of_lt (Heap.lt_size hol)
  have hn : its.toArray.size ≤ sizeLine := by rw [List.size_toArray, ← rv.length]; exact hz
  refine call_tuple_rt (s := { s1 with heap := s1.heap.push (rtObj a ((its.toArray.size : Int) - 1)), toks := s1.toks + 1 + 1 }) (I1.ok.hd hc) ⟨_, Heap.get?_push_size _ rfl, rfl, rfl⟩ (p'.push _) hne hn fun h' tk acc hk hi => ?_
  have I3 : Inv X pins σ H1 { s1 with heap := h', toks := tk } := I2.turned (t' := tk) (fun b o hb e => hk b o hb e) f0 f1 f3 f4 f5
  refine ⟨.ref h'.objs.size, upd H1 h'.objs.size (.tup xs.reverse), I3.laid (t' := tk) (fun c o e => Heap.get?_push_of_some _ e) (Nat.le_refl _) (show ObjOk X.prog X.w _ _ _ (.tup xs.reverse) from ⟨by rw [List.length_reverse]; exact hz, acc.toList, vals_rev rv hi, ?_⟩), rfl, q _ (I3.hok.fresh (Nat.le_refl _))⟩
  rw [Array.toArray_toList]
  exact IsTup.new _ _
theorem ed_tupRev {xs : List PyData} {e : Expr} {p p2 pos pos2 : Pos} (hc : X.calm = true) (hm : X.mg "tuple" = none) (hm2 : X.mg "reversed" = none) (he : PEd X tb e ds (.tuple xs)) (hg : Gl X "tuple" := by rfl) (hg2 : Gl X "reversed" := by rfl)
    (hs : starEach [e] X.env = (false, eval e X.env) :: starEach [] X.env := by rfl)
    (hs2 : starEach [.Call (.Name "reversed" p2) [e] [] pos2] X.env = (false, eval (.Call (.Name "reversed" p2) [e] [] pos2) X.env) :: starEach [] X.env := by rfl) :
    PEd X tb (.Call (.Name "tuple" p) [.Call (.Name "reversed" p2) [e] [] pos2] [] pos) ds (.tuple xs.reverse) :=
  let ⟨_, p1, q1⟩ := he; ⟨_, pe_tupRevT hc hg hm hg2 hm2 p1 hs hs2, fun Hd H σ E Q z => q1 Hd H σ E _ fun v Hd1 H1 g dv => by
    cases dv with
    | @tup a vs _ k1 k2 =>
      exact ⟨a, vs, rfl, st_sub g.h.s k1, fun q hq => z _ _ _ (g.trans (Gr.new g.h hq fun _ z => HO.noConfusion z)) (.tup (.inl (.inl upd_same)) (DpAll.up (dpa_rev k2) (Gr.new g.h hq fun _ z => HO.noConfusion z).d))⟩⟩
end
end DL
/-! GX6: the scope of a generator expression, by reckoning; small things. -/
namespace DL
open PySem PySem.Spec PyProof.Rows L2 GX
def gxC (N : List Str) (sc scope : Scope) (Ng : List Str) (mp : List (Option Nat)) : Bool :=
  decide (scope.kind = .function) && (!scope.isCoroutine && (scope.names.all (fun y => decide (y.2 ≠ .cell)) && (decide (scope.names.lookup (".0" : Str) = some NameKind.local) &&
    (scope.names.all (fun y => decide (y.2 ≠ .free) || (decide (sc.names.lookup y.1 = some .cell) || decide (sc.names.lookup y.1 = some .free))) && (decide (mp.length = Ng.length) &&
      ((List.range mp.length).all (fun j => match mp[j]? with
        | some (some i) => (match Ng[j]? with
          | some x => decide (N[i]? = some x) && decide (scope.names.lookup x = some .free)
          | none => false)
        | _ => true) && decide Ng.Nodup))))))
theorem gxOk_by {N : List Str} {sc scope : Scope} {Ng : List Str} {mp : List (Option Nat)} (h : gxC N sc scope Ng mp = true) : GxOk N sc scope Ng mp := by
  unfold gxC at h
  simp only [Bool.and_eq_true, decide_eq_true_eq, List.all_eq_true, Bool.or_eq_true, Bool.not_eq_true'] at h
  obtain ⟨h1, h2, h3, h4, h5, h6, h7, h8⟩ := h
  refine ⟨h1, h2, h3, h4, fun y hy e => ?_, h6, fun j i e => ?_, h8⟩
  · rcases h5 y hy with z | z
    · exact absurd e z
    · exact z
  · have hj : j < mp.length := (List.getElem?_eq_some_iff.mp e).1
    have := h7 j (List.mem_range.mpr hj)
    rw [e] at this
    cases q : Ng[j]? with
    | none =>
      rw [q] at this
      cases this
    | some x =>
      rw [q] at this
      have this : (decide (N[i]? = some x) && decide (scope.names.lookup x = some NameKind.free)) = true := this
      rw [Bool.and_eq_true, decide_eq_true_eq, decide_eq_true_eq] at this
      exact ⟨x, rfl, this.1, this.2⟩
/-! ### parts of a def's body -/
def stmtAt (st : Stmt) (i : Nat) : Stmt := (defBody st).getD i (.Pass ⟨0, 0, 0, 0⟩)
def bodyOf : Stmt → List Stmt
  | .For _ _ b _ _ => b
  | .While _ b _ _ => b
  | .If _ b _ _ => b
  | _ => []
def elseOf : Stmt → List Stmt
  | .If _ _ b _ => b
  | _ => []
def testOf (b : List Stmt) (i : Nat) : Expr := match b.getD i (.Pass ⟨0, 0, 0, 0⟩) with
  | .If c _ _ _ => c
  | .While c _ _ _ => c
  | _ => .Constant .none 0 ⟨0, 0, 0, 0⟩
section
variable {X : Cx} {tb : List Addr} {ds : List Sl} {d e f : PyData} {a b : Expr} {pos : Pos}
theorem pg_gx {Ng : List Str} {scope : Scope} {x : Str} {px : Pos} (i : Nat) (hnd : Ng.Nodup := by decide +kernel) (hi : Ng[i]? = some x := by rfl) (hl : scope.names.lookup x = some .local := by rfl) (s : Shared) (H : Hp) (code : Value) (fp : List Addr) : PG (X.gx Ng s H scope code fp) (.Name x px) (gName i) :=
  pg_name (X := X.gx Ng s H scope code fp) hnd hi (Or.inl hl) (Or.inr hl)
theorem pg_gx2 {Ng : List Str} {scope : Scope} {x y : Str} {px py pt : Pos} {kk : Nat} (i j : Nat) (hnd : Ng.Nodup := by decide +kernel) (hi : Ng[i]? = some x := by rfl) (hl : scope.names.lookup x = some .local := by rfl) (hj : Ng[j]? = some y := by rfl) (hm : scope.names.lookup y = some .local := by rfl) (s : Shared) (H : Hp) (code : Value) (fp : List Addr)
    (h1 : (assignEach [.Name x px, .Name y py] (X.gx Ng s H scope code fp).env).length = 2 := by rfl) (h2 : (assignEach [.Name x px, .Name y py] (X.gx Ng s H scope code fp).env).findIdx? (·.1) = none := by rfl)
    (h3 : (assignEach [.Name x px, .Name y py] (X.gx Ng s H scope code fp).env).map (·.2) = assign (.Name x px) (X.gx Ng s H scope code fp).env :: (assignEach [.Name y py] (X.gx Ng s H scope code fp).env).map (·.2) := by rfl) (h4 : (assignEach [.Name y py] (X.gx Ng s H scope code fp).env).map (·.2) = assign (.Name y py) (X.gx Ng s H scope code fp).env :: (assignEach [] (X.gx Ng s H scope code fp).env).map (·.2) := by rfl) :
    PG (X.gx Ng s H scope code fp) (.Tuple [.Name x px, .Name y py] kk pt) (gTup X.K 2 (gCons (gName i) (gCons (gName j) gNil))) :=
  pg_tup (X := X.gx Ng s H scope code fp) rfl (pgs_cons (pg_name (X := X.gx Ng s H scope code fp) hnd hi (Or.inl hl) (Or.inr hl)) (pgs_cons (pg_name (X := X.gx Ng s H scope code fp) hnd hj (Or.inl hm) (Or.inr hm)) pgs_nil h4) h3) h1 h2
/-- an index that is known as a natural number -/
theorem item_tn {xs : List PyData} {i : Int} (j : Nat) (e : i = (j : Int)) (h : j < xs.length) : ItemD X tb (.tuple xs) (.int i) (xs.getD j .none) := by
  subst e
  refine item_t (atI_nat ?_)
  rw [List.getD_eq_getElem?_getD, List.getElem?_eq_getElem h] <;> rfl
theorem item_ln {xs : List PyData} {i : Int} (j : Nat) (e : i = (j : Int)) (h : j < xs.length) : ItemD X tb (.list xs) (.int i) (xs.getD j .none) := by
  subst e
  refine item_l (atI_nat ?_)
  rw [List.getD_eq_getElem?_getD, List.getElem?_eq_getElem h] <;> rfl
end
end DL
/-! DL29: an own list that is made of items; its length, its items. -/
namespace DL
open PySem PySem.Spec PyProof.Rows L2
section
variable {X : Cx} {tb : List Addr} {W : WX'} {ds es : List Sl} {d e f : PyData} {a b c : Expr} {pos pos' p p2 : Pos} {x y : Str} {args : List Expr} {fs : List PyData} {rest : List Stmt} {o : Out}
/-- x = [a, ..], x's list one's own from now on -/
theorem bd_ownL (i : Nat) {pos1 pos2 : Pos} (ha : PAd X tb args ds fs) (hl : fs.length ≤ 1000000) (h : PBd X tb W rest (ds.set i (.own fs)) o) (hN : X.N.Nodup) (hi : X.N[i]? = some x := by rfl) (hx : locB X.env.scope x = true := by rfl) (hs : swapsWith (.List args pos1) (some (.Name x pos')) pos2.line X.env = pure false := by rfl)
    (hf : X.fn x = true ∨ X.env.scope.names.lookup x = some .local := by first | exact .inl rfl | exact .inr rfl) : PBd X tb W (.Assign [.Name x pos'] (.List args pos1) pos2 :: rest) ds o := by
  obtain ⟨t, p, q⟩ := ha
  refine bd_cons (es := ds.set i (.own fs)) ⟨_, ps_set hN hi (locB_ok hx) (pe_lst p) hs hf, fun Hd0 H0 Hd H σ D S z => ?_⟩ h
  refine q Hd H σ S.env _ fun vs Hd1 H1 g dv => ⟨by rw [dpa_len dv]; exact Nat.le_trans hl (by decide), fun fo hfo => ?_⟩
  have S1 := S.up g
  have hd0 : Hd1 fo = none := by
    cases e : Hd1 fo with
    | none => rfl
    | some u =>
      have := g.h.s fo u e
      rw [hfo] at this
      cases this
  exact z _ Hd1 _ (S1.getOwn i (Gr.newOut (o := .lst vs) g.h hfo) hfo hd0 upd_same dv) g.d
/-- what is found while one looks at one's own list, a plain thing -/
theorem ed_peek (i : Nat) {xs : List PyData} (h : PEd X tb c (ds.set i (.dat (.list xs))) d) (hs : ∀ (K : PySem.W.Frag) (A B : Hp) (v : V), Dp K A v d → Dp K B v d) (e : ds[i]? = some (.own xs) := by rfl) : PEd X tb c ds d := by
  obtain ⟨t, p, q⟩ := h
  refine ⟨t, p, fun Hd H σ E Q z => ?_⟩
  obtain ⟨A, vs, ea, hl, hd, E2⟩ := E.freeze e
  exact q _ H σ E2 Q fun v Hd' H' g dv => z v _ H' (Gr.unpeek hd g) (hs _ _ _ _ dv)
theorem plain_int {i : Int} : ∀ (K : PySem.W.Frag) (A B : Hp) (v : V), Dp K A v (.int i) → Dp K B v (.int i) := fun K A B v h => by
  cases h
  exact .int i
theorem plain_bl {i : Bool} : ∀ (K : PySem.W.Frag) (A B : Hp) (v : V), Dp K A v (.bool i) → Dp K B v (.bool i) := fun K A B v h => by
  cases h
  exact .bl i
theorem plain_str {z : Str} : ∀ (K : PySem.W.Frag) (A B : Hp) (v : V), Dp K A v (.str z) → Dp K B v (.str z) := fun K A B v h => by
  cases h
  exact .str z
/-- x[e], x's list one's own -/
theorem ed_itemOwn (i : Nat) {xs : List PyData} {j : Int} {p1 : Pos} (hb : PEd X tb b ds (.int j)) (h : atI xs j = some d) (e : ds[i]? = some (.own xs) := by rfl) (hN : X.N[i]? = some x := by rfl) (hv : visB X.env.scope x = true := by rfl) (h1 : (x == ("__debug__" : Str)) = false := by decide)
    (h2 : (x == ("__classdict__" : Str)) = false := by decide) (hs : PlainIx b := by exact fun _ _ => rfl) : PEd X tb (.Subscript (.Name x p1) b pos) ds d := by
  obtain ⟨t, p, q⟩ := hb
  refine ⟨_, pe_ix ix_list (pe_var hN (visB_ok hv) h1 h2) p hs, fun Hd H σ E Q z => ?_⟩
  obtain ⟨A, vs, ea, hl, hd, hx⟩ := E.own e
  refine ⟨.ref A, ea, q Hd H σ E _ fun v Hd1 H1 g dv => ?_⟩
  cases dv
  have hx1 := DpAll.up hx g.d
  obtain ⟨n, e1, e2⟩ := atI_map (xs := vs) (dpa_len hx1) h
  obtain ⟨u, e3, e4⟩ := dpa_get hx1 e2
  exact ⟨A, vs, j, u, rfl, rfl, .inl (.inl (g.e.k A _ hl fun _ z => nomatch z)), by unfold atI; rw [dpa_len hx1, e1]; exact e3, z u Hd1 H1 g e4⟩
end
end DL
/-! DL30: x = [e for y in it if ..] on one line; truth of data. -/
namespace DL
open PySem PySem.Spec PyProof.Rows L2
section
variable {X : Cx} {tb : List Addr} {W : WX'} {ds es : List Sl} {d : PyData} {a b c iter elt : Expr} {pos pos' px py spos : Pos} {st : Stmt} {rest body : List Stmt} {o o' : Out} {x y : Str}
def lcT (X : Cx) (scope : Scope) (ifs : List Expr) : TT := fun σ H Q => ∀ (s : Shared) (H' : Hp) (C : Addr) (cl : List (Str × Addr)) (fp : List Addr), ∃ t, PTs (X.blk s H' scope (compEnvC scope cl C X.env) fp) ifs t ∧ t σ H Q
def lcE (X : Cx) (scope : Scope) (elt : Expr) : TE := fun σ H Q => ∀ (s : Shared) (H' : Hp) (C : Addr) (cl : List (Str × Addr)) (fp : List Addr), wpE (X.blk s H' scope (compEnvC scope cl C X.env) fp) elt σ H Q
theorem ev_lcX {α : Type} {scope : Scope} {ifs : List Expr} {wi : TI} (j : Nat) (ys : List α) (enc F : α → PyData) (p : α → Bool) (hlen : ys.length ≤ 1000000) (q1 : ∀ (Hd H : Hp) (σ : L2.St), Env X.K tb Hd H σ ds → ∀ R : It → Hp → Prop, (∀ J Hd1 H1, Gr Hd H Hd1 H1 → Walk X.K J Hd1 (ys.map enc) → R J H1) → wi σ H R)
    (ht : ∀ y ∈ ys, ∀ (s : Shared) (H : Hp) (C : Addr) (cl : List (Str × Addr)) (fp : List Addr), ∃ t, PTs (X.blk s H scope (compEnvC scope cl C X.env) fp) ifs t ∧ EvT X.K tb t (ds.set j (.dat (enc y))) (p y))
    (he : ∀ y ∈ ys, p y = true → ∀ (s : Shared) (H : Hp) (C : Addr) (cl : List (Str × Addr)) (fp : List Addr), PEd (X.blk s H scope (compEnvC scope cl C X.env) fp) tb elt (ds.set j (.dat (enc y))) (F y)) :
    EvE X.K tb (tLc wi (gName j) (lcT X scope ifs) (lcE X scope elt) [j]) ds (.list ((ys.filter p).map F)) := by
  intro Hd H σ E Q z
  refine q1 Hd H σ E _ fun J Hd1 H1 g wk D hD => ?_
  have hd0 : Hd1 D = none := by
    cases e : Hd1 D with
    | none => rfl
    | some u =>
      have := g.h.s D u e
      rw [hD] at this
      cases this
  -- W: what is made so far
  refine ⟨fun i mm H' => mm = ys.length - i ∧ i ≤ ys.length ∧ ∃ Hd' vs, Gr Hd1 H1 Hd' H' ∧ Hd' D = none ∧ H' D = some (.lst vs) ∧ DpAll X.K Hd' vs (((ys.take i).filter p).map F), ⟨ys.length, by simp, Nat.zero_le _, Hd1, [], Gr.newOut g.h hD, hd0, upd_same, .nil⟩, ?_⟩
  rintro i mm H' ⟨rfl, him, Hd', vs, g', d0, hl, hv⟩
  have E' : Env X.K tb Hd' H' σ ds := (E.up g).up g'
  have W' : Env X.K tb Hd' H' (wipe σ [j]) (ds.set j .no) := ⟨by show (List.set σ j none).length = _; rw [List.length_set, List.length_set]; exact E'.len, E'.dh, E'.tb, fun k t e => by
      show ∃ o, (List.set σ j none)[k]? = some o ∧ _
      by_cases q : j = k
      · subst q
        have hj : j < ds.length := by
          have := (List.getElem?_eq_some_iff.mp e).1
          rw [List.length_set] at this
          exact this
        rw [List.getElem?_set_self hj] at e
        cases e
        exact ⟨none, List.getElem?_set_self (by rw [E'.len]; exact hj), trivial⟩
      · rw [List.getElem?_set_ne q] at e
        obtain ⟨oo, k1, k2⟩ := E'.sl k t e
        exact ⟨oo, by rw [List.getElem?_set_ne q]; exact k1, k2⟩, fun k l xs zs a n e1 e2 e3 e4 => by
      have nj : ∀ (m : Nat) (us : List PyData), (ds.set j .no)[m]? = some (.own us) → j ≠ m := fun m us e q => by
        subst q
        have hj : j < ds.length := by
          have := (List.getElem?_eq_some_iff.mp e).1
          rw [List.length_set] at this
          exact this
        rw [List.getElem?_set_self hj] at e
        cases e
      have n1 := nj k xs e1
      have n2 := nj l zs e2
      rw [List.getElem?_set_ne n1] at e1
      rw [List.getElem?_set_ne n2] at e2
      have e3' : (List.set σ j none)[k]? = some (some (V.ref a)) := e3
      have e4' : (List.set σ j none)[l]? = some (some (V.ref a)) := e4
      rw [List.getElem?_set_ne n1] at e3'
      rw [List.getElem?_set_ne n2] at e4'
      exact E'.ap k l xs zs a n e1 e2 e3' e4'⟩
  by_cases hlt : i < ys.length
  · have hil : i < (ys.map enc).length := by rw [List.length_map]; exact hlt
    have hy : ys[i] ∈ ys := List.getElem_mem hlt
    refine .inr ⟨wk.go i Hd' H' g'.d g'.h hil, fun H2 => i + 1 ≤ ys.length ∧ ∃ Hd2 vs, Gr Hd1 H1 Hd2 H2 ∧ Hd2 D = none ∧ H2 D = some (.lst vs) ∧ DpAll X.K Hd2 vs (((ys.take (i + 1)).filter p).map F), fun H2 z2 => ⟨ys.length - (i + 1), by omega, rfl, z2⟩, fun v H2 y => ?_⟩
    obtain ⟨Hd2, dd, e1, g2, dv⟩ := wk.yl i Hd' H' v H2 g'.d g'.h hil y
    have ed : dd = enc ys[i] := by
      rw [List.getElem?_map, List.getElem?_eq_getElem hlt] at e1
      exact (Option.some.inj e1).symm
    subst ed
    have hjσ : ∀ u : V, wipe ((wipe σ [j]).set j (some u)) [j] = wipe σ [j] := fun u => by
      show List.set (List.set (List.set σ j none) j (some u)) j none = List.set σ j none
      rw [List.set_set, List.set_set]
    refine ⟨hjσ v, fun s Hx C cl fp => ?_⟩
    have E2 : Env X.K tb Hd2 H2 ((wipe σ [j]).set j (some v)) (ds.set j (.dat (enc ys[i]))) := by
      have := (W'.up g2).set (i := j) (s := .dat (enc ys[i])) dv fun _ z => nomatch z
      rwa [List.set_set] at this
    obtain ⟨t, t1, t2⟩ := ht ys[i] hy s Hx C cl fp
    refine ⟨t, t1, t2 Hd2 H2 _ E2 _ fun Hd3 H3 g3 => ?_⟩
    have tk : ys.take (i + 1) = ys.take i ++ [ys[i]] := by rw [List.take_add_one, List.getElem?_eq_getElem hlt] <;> rfl
    have g13 : Gr Hd1 H1 Hd3 H3 := (g'.trans g2).trans g3
    have d3 : Hd3 D = none := (g2.trans g3).f D d0 (by rw [hl]; exact fun z => nomatch z)
    have l3 : H3 D = some (.lst vs) := (g2.trans g3).e.k D _ hl fun _ z => nomatch z
    cases hp : p ys[i] with
    | true =>
      refine iteT fun s Hx C cl fp => (he ys[i] hy hp s Hx C cl fp).can Hd3 H3 _ (E2.up g3) _ fun w Hd4 H4 g4 dw => ?_
      have d4 : Hd4 D = none := g4.f D d3 (by rw [l3]; exact fun z => nomatch z)
      have l4 : H4 D = some (.lst vs) := g4.e.k D _ l3 fun _ z => nomatch z
      have lv : vs.length ≤ ys.length := by
        rw [dpa_len hv, List.length_map]
        exact Nat.le_trans (List.length_filter_le _ _) (by rw [List.length_take]; exact Nat.min_le_right _ _)
      refine ⟨vs, l4, Nat.lt_of_le_of_lt (Nat.le_trans lv hlen) (by decide), hlt, Hd4, vs ++ [w], ?_, d4, upd_same, ?_⟩
      · have G := g13.trans g4
        exact ⟨G.d, ⟨fun b o q => by rw [upd_ne (ne_of_none q d4)]; exact G.h.s b o q, G.h.nt⟩, ⟨fun b o q n => by rw [upd_ne (ne_of_none q hD)]; exact G.e.k b o q n, fun P t => by
          obtain ⟨ps, e1, e2⟩ := G.e.t P t
          exact ⟨ps, by rw [upd_ne (not_tab l4 ⟨ps, e1, e2⟩)]; exact e1, e2⟩, fun b q => by
          by_cases q1 : b = D
          · rw [q1]; exact hD
          · rw [upd_ne q1] at q
            exact G.e.n b q⟩, G.f⟩
      · rw [tk, List.filter_append, List.map_append, List.filter_cons, if_pos hp]
        exact dpa_app (DpAll.up hv ((g2.trans g3).trans g4).d) (.cons dw .nil)
    | false =>
      refine iteF ⟨hlt, Hd3, vs, g13, d3, l3, ?_⟩
      rw [tk, List.filter_append, List.map_append, List.filter_cons, if_neg (by rw [hp]; exact Bool.false_ne_true)]
      show DpAll X.K Hd3 vs (_ ++ [])
      rw [List.append_nil]
      exact DpAll.up hv (g2.trans g3).d
  · have e : i = ys.length := by omega
    subst e
    refine .inl ⟨wk.st _ Hd' H' g'.d g'.h (by rw [List.length_map]; exact Nat.le_refl _), ?_⟩
    rw [List.take_length] at hv
    have s : Sub Hd' (upd Hd' D (.lst vs)) := fun b o q => by rw [upd_ne (ne_of_none q d0)]; exact q
    refine z (.ref D) (upd Hd' D (.lst vs)) H' ⟨(g.d.trans g'.d).trans s, ⟨fun b o q => ?_, fun b ps q => ?_⟩, (g.e.trans g'.e), fun b q n => ?_⟩ (.lst (.inl (.inl upd_same)) (DpAll.up hv s))
    · by_cases q1 : b = D
      · rw [q1, upd_same] at q
        rw [q1, hl, q]
      · rw [upd_ne q1] at q
        exact g'.h.s b o q
    · by_cases q1 : b = D
      · rw [q1, upd_same] at q
        cases q
      · rw [upd_ne q1] at q
        exact g'.h.nt b ps q
    · by_cases q1 : b = D
      · rw [q1] at n
        exact absurd (g.e.n D hD) n
      · rw [upd_ne q1]
        exact (g.trans g').f b q n
/-- y = [e for x in it if ..], y a local name, on one line -/
theorem sd_setLc {α : Type} {scope : Scope} {ifs : List Expr} (i j : Nat) (ys : List α) (enc F : α → PyData) (p : α → Bool) (hc : X.calm = true) (hN : X.N.Nodup) (hi : PId X tb (.Name x px) iter ds (ys.map enc)) (hlen : ys.length ≤ 1000000) (ok : BlkOk X.N X.env.scope scope [(x, j)])
    (hg : ∀ (s : Shared) (H : Hp) (C : Addr) (cl : List (Str × Addr)) (fp : List Addr), PG (X.blk s H scope (compEnvC scope cl C X.env) fp) (.Name x px) (gName j))
    (ht : ∀ y ∈ ys, ∀ (s : Shared) (H : Hp) (C : Addr) (cl : List (Str × Addr)) (fp : List Addr), ∃ t, PTs (X.blk s H scope (compEnvC scope cl C X.env) fp) ifs t ∧ EvT X.K tb t (ds.set j (.dat (enc y))) (p y))
    (he : ∀ y ∈ ys, p y = true → ∀ (s : Shared) (H : Hp) (C : Addr) (cl : List (Str × Addr)) (fp : List Addr), PEd (X.blk s H scope (compEnvC scope cl C X.env) fp) tb elt (ds.set j (.dat (enc y))) (F y))
    (hy : X.N[i]? = some y := by rfl) (hk : X.env.scope.kind = .function := by rfl) (hyl : X.env.scope.names.lookup y = some .local := by rfl) (hl : (py.line == pos.line) = true := by rfl) (ha : (scope.names.any fun (n, k) => n == y && (k == .local || k == .cell)) = false := by decide +kernel)
    (hs : ∀ x, foldedSetIterable iter X.env x = pure x := by intro _; rfl) : PSd X tb W (.Assign [.Name y py] (.ListComp elt [⟨.Name x px, iter, ifs, 0⟩] scope pos) spos) ds (.nx (ds.set i (.dat (.list ((ys.filter p).map F))))) := by
  obtain ⟨wi, p1, q1⟩ := hi
  refine ⟨_, ps_setLc (own := [(x, j)]) (g := gName j) (tt := lcT X scope ifs) (te := lcE X scope elt) hc hN hy hyl (sw_true hk hyl hl ha) p1 ok hg
    (fun s H C cl fp => ⟨fun pins s' σ H' Q I h => let ⟨t, a1, a2⟩ := h s H C cl fp; a1.run pins s' σ H' Q I a2⟩) (fun s H C cl fp => ⟨fun pins s' σ H' Q I h => pe_can.run pins s' σ H' Q I (h s H C cl fp)⟩) hs, fun Hd0 H0 Hd H σ D S z => ?_⟩
  exact ev_lcX (elt := elt) j ys enc F p hlen q1 ht he Hd H σ S.env _ fun v Hd' H' g dv => z _ Hd' H' ((S.up g).set (s := .dat (.list ((ys.filter p).map F))) dv fun _ z => nomatch z) g.d
theorem sd_setLcY {α : Type} {scope : Scope} (i j : Nat) (ys : List α) (enc F : α → PyData) (hc : X.calm = true) (hN : X.N.Nodup) (hi : PId X tb (.Name x px) iter ds (ys.map enc)) (hlen : ys.length ≤ 1000000) (ok : BlkOk X.N X.env.scope scope [(x, j)])
    (hg : ∀ (s : Shared) (H : Hp) (C : Addr) (cl : List (Str × Addr)) (fp : List Addr), PG (X.blk s H scope (compEnvC scope cl C X.env) fp) (.Name x px) (gName j))
    (he : ∀ y ∈ ys, ∀ (s : Shared) (H : Hp) (C : Addr) (cl : List (Str × Addr)) (fp : List Addr), PEd (X.blk s H scope (compEnvC scope cl C X.env) fp) tb elt (ds.set j (.dat (enc y))) (F y))
    (hy : X.N[i]? = some y := by rfl) (hk : X.env.scope.kind = .function := by rfl) (hyl : X.env.scope.names.lookup y = some .local := by rfl) (hl : (py.line == pos.line) = true := by rfl) (ha : (scope.names.any fun (n, k) => n == y && (k == .local || k == .cell)) = false := by decide +kernel)
    (hs : ∀ x, foldedSetIterable iter X.env x = pure x := by intro _; rfl) : PSd X tb W (.Assign [.Name y py] (.ListComp elt [⟨.Name x px, iter, [], 0⟩] scope pos) spos) ds (.nx (ds.set i (.dat (.list (ys.map F))))) := by
  have z := sd_setLc (W := W) (spos := spos) i j ys enc F (fun _ => true) hc hN hi hlen ok hg (fun y hy s H C cl fp => ⟨tYes, pts_nil, fun Hd H σ E Q z => z Hd H (Gr.refl E.dh)⟩) (fun y hy _ => he y hy) hy hk hyl hl ha hs
  rwa [List.filter_eq_self.mpr fun _ _ => rfl] at z
theorem tru_of {K : PySem.W.Frag} {Hd H : Hp} {v : V} {k : Bool} (D : DH Hd H) (h : Dp K Hd v d) (t : TruD d k) : TruV K v H k := by
  cases d with
  | none => cases h; exact t
  | bool b => cases h; exact t
  | int b => cases h; exact t
  | str b => exact t.elim
  | dict _ => exact t.elim
  | list xs =>
    cases h with
    | lst h1 h2 =>
      refine .inl ⟨_, sl_sub D.s h1, ?_⟩
      have t : k = !xs.isEmpty := t
      rw [t]
      have := dpa_len h2
      rename_i vs
      cases vs <;> cases xs <;> first | rfl | cases this
  | tuple xs =>
    cases h with
    | tup h1 h2 =>
      refine .inr (.inl ⟨_, st_sub D.s h1, ?_⟩)
      have t : k = !xs.isEmpty := t
      rw [t]
      have := dpa_len h2
      rename_i vs
      cases vs <;> cases xs <;> first | rfl | cases this
theorem td_tru {k : Bool} (ha : PEd X tb a ds d) (h : TruD d k) (he : ∀ whole, isTrue a X.env whole = (do let v ← whole; standAt a.pos; holding [v] (truthy v)) := by intro _; rfl) : PTd X tb a ds k :=
  let ⟨_, p1, q1⟩ := ha; ⟨_, pt_truth p1 he, fun Hd H σ E Q q => q1 Hd H σ E _ fun v Hd1 H1 g dv => ⟨k, tru_of g.h dv h, q Hd1 H1 g⟩⟩
end
end DL
/-! DL31: a loop that tests: it goes on while all is well, and hands back else. -/
namespace DL
open PySem PySem.Spec PyProof.Rows L2
theorem first_badN (p : Nat → Bool) : ∀ n : Nat, (∀ i, i < n → p i = true) ∨ ∃ m, m < n ∧ p m = false ∧ ∀ i, i < m → p i = true
  | 0 => .inl fun _ h => absurd h (Nat.not_lt_zero _)
  | n + 1 => by
    rcases first_badN p n with h | ⟨m, h1, h2, h3⟩
    · cases q : p n with
      | true =>
        left
        intro i hi
        by_cases e : i = n
        · rw [e]; exact q
        · exact h i (by omega)
      | false => exact .inr ⟨n, Nat.lt_succ_self n, q, h⟩
    · exact .inr ⟨m, Nat.lt_succ_of_lt h1, h2, h3⟩
section
variable {X : Cx} {tb : List Addr} {W : WX'} {ds es : List Sl} {iter : Expr} {pos px : Pos} {rest body : List Stmt} {o : Out} {x : Str}
theorem bd_forB {items : List PyData} (j : Nat) (p : Nat → Bool) (r : PyData) (hp : PassesOwn (model X.prog X.w) X.A X.env X.xe) (hc : X.calm = true) (hi : PId X tb (.Name x px) iter ds items) (hN : X.N.Nodup)
    (hb : ∀ (i : Nat) d, items[i]? = some d → (∀ m, m < i → p m = true) → PBd X tb W body (ds.set j (.dat d)) (if p i = true then .nx ds else .rt r))
    (hrest : (∀ m, m < items.length → p m = true) → PBd X tb W rest ds o) (hres : ∀ m, m < items.length → p m = false → o = .rt r)
    (hj : X.N[j]? = some x := by rfl) (hx : locB X.env.scope x = true := by rfl) (hf : X.fn x = true ∨ X.env.scope.names.lookup x = some .local := by first | exact .inl rfl | exact .inr rfl)
    (hs : ∀ x, foldedSetIterable iter X.env x = pure x := by intro _; rfl) : PBd X tb W (.For (.Name x px) iter body [] pos :: rest) ds o := by
  rcases first_badN p items.length with h | ⟨m, h1, h2, h3⟩
  · refine bd_cons (sd_for (items := items) j (fun _ => ds) hp hc hi hN rfl (fun i d e => ?_) hj hx hf hs) (hrest h)
    have hl := (List.getElem?_eq_some_iff.mp e).1
    have z := hb i d e fun m hm => h m (Nat.lt_trans hm hl)
    rwa [if_pos (h i hl)] at z
  · rw [hres m h1 h2]
    refine bd_left (sd_forX (items := items) j m (fun _ => ds) hp hc hi hN rfl (Nat.le_of_lt h1) (fun i d hi e => ⟨_, .nx _, ?_⟩) (.inr ⟨items[m], _, List.getElem?_eq_getElem h1, ?_, .rt r⟩) hj hx hf hs)
    · have z := hb i d e fun m' hm => h3 m' (Nat.lt_trans hm hi)
      rwa [if_pos (h3 i hi)] at z
    · have z := hb m items[m] (List.getElem?_eq_getElem h1) h3
      rwa [if_neg (by rw [h2]; exact Bool.false_ne_true)] at z
/-- 0, 1, .. n - 1 -/
theorem rng0_len (n : Nat) : (rngD 0 n).length = n := by unfold rngD; rw [List.length_map, List.length_range]
theorem rng0_at {n i : Nat} {d : PyData} (e : (rngD 0 n)[i]? = some d) : i < n ∧ d = .int (i : Int) := by
  unfold rngD at e
  rw [List.getElem?_map] at e
  cases q : (List.range n)[i]? with
  | none => rw [q] at e; cases e
  | some m =>
    rw [q] at e
    obtain ⟨h1, h2⟩ := List.getElem?_eq_some_iff.mp q
    rw [List.getElem_range] at h2
    rw [List.length_range] at h1
    exact ⟨h1, by rw [← Option.some.inj e, ← h2]; show PyData.int (0 + (i : Int)) = _; rw [Int.zero_add]⟩
variable {a : Expr} {p : Pos} {tg : Expr}
theorem cmp_notInStrT {z : Str} {ys : List Str} : CmpD X tb .NotIn (.str z) (.tuple (ys.map .str)) (!decide (z ∈ ys)) := ⟨⟨_, op_notIn_seq, rv_inStrT (neg := true)⟩⟩
/-- range(n), n known as a natural number -/
theorem id_rngN {n : Nat} {j : Int} (hm : X.mg "range" = none) (h : PEd X tb a ds (.int j)) (e : j = (n : Int)) (hn : n ≤ 1000000) (hg : Gl X "range" := by rfl) (hs : starEach [a] X.env = [(false, eval a X.env)] := by rfl) : PId X tb tg (.Call (.Name "range" p) [a] [] pos) ds (rngD 0 n) := by
  subst e
  have z := id_rng1 (tg := tg) (pos := pos) (p := p) hm h (by omega) (by omega) hg hs
  rwa [Int.toNat_natCast] at z
end
end DL
/-! DL32: new lists handed back; [c] * n, x[i] = e on one's own; try with a block. -/
namespace DL
open PySem PySem.Spec PyProof.Rows L2
section
variable {X : Cx} {tb : List Addr} {W : WX'} {ds es : List Sl} {d e f : PyData} {a b c iter elt : Expr} {pos pos' p p1 p2 px : Pos} {x y : Str} {args : List Expr} {fs : List PyData} {ps : List Str} {k : Nat} {rest body : List Stmt} {o : Out} {K : PySem.W.Frag}
/-- return x, x's list one's own -/
theorem sd_retOwn (i : Nat) {xs : List PyData} (e : ds[i]? = some (.own xs) := by rfl) (hN : X.N[i]? = some x := by rfl) (hv : visB X.env.scope x = true := by rfl) (h1 : (x == ("__debug__" : Str)) = false := by decide) (h2 : (x == ("__classdict__" : Str)) = false := by decide) :
    PSd X tb W (.Return (some (.Name x p1)) pos) ds (.ro xs) := by
  refine ⟨_, ps_ret (pe_var hN (visB_ok hv) h1 h2), fun Hd0 H0 Hd H σ D S z => ?_⟩
  obtain ⟨l, vs, ea, hl, hd, hx⟩ := S.env.own e
  exact ⟨.ref l, ea, z l vs Hd H S.gr S.env.tb (S.fr i xs l e ea) hd hl hx⟩
/-- an expression whose value is a new list, nobody else's -/
def EvOw (K : PySem.W.Frag) (tb : List Addr) (te : TE) (ds : List Sl) (xs : List PyData) : Prop := ∀ (Hd H : Hp) (σ : L2.St), Env K tb Hd H σ ds → ∀ Q : VK, (∀ (fo : Addr) (ws : List V) Hd' H', Gr Hd H Hd' H' → H fo = none → Hd' fo = none → H' fo = some (.lst ws) → DpAll K Hd' ws xs → Q (.ref fo) H') → te σ H Q
def POd' (X : Cx) (tb : List Addr) (e : Expr) (ds : List Sl) (xs : List PyData) : Prop := ∃ t, PE X e t ∧ EvOw X.K tb t ds xs
theorem none_of_dh {Hd H : Hp} {a : Addr} (D : DH Hd H) (h : H a = none) : Hd a = none := by
  cases e : Hd a with
  | none => rfl
  | some u =>
    have := D.s a u e
    rw [h] at this
    cases this
theorem sd_retO {xs : List PyData} (h : POd' X tb a ds xs) : PSd X tb W (.Return (some a) pos) ds (.ro xs) :=
  let ⟨_, p1, q1⟩ := h; ⟨_, ps_ret p1, fun Hd0 H0 Hd H σ D S z => q1 Hd H σ S.env _ fun fo ws Hd' H' g hf hn hl hd => z fo ws Hd' H' (S.gr.trans g) (S.env.up g).tb (S.gr.e.n fo hf) hn hl hd⟩
theorem sd_setO (i : Nat) {xs : List PyData} (h : POd' X tb a ds xs) (hN : X.N.Nodup) (hi : X.N[i]? = some x := by rfl) (hx : locB X.env.scope x = true := by rfl) (hs : swapsWith a (some (.Name x pos')) pos.line X.env = pure false := by rfl)
    (hf : X.fn x = true ∨ X.env.scope.names.lookup x = some .local := by first | exact .inl rfl | exact .inr rfl) : PSd X tb W (.Assign [.Name x pos'] a pos) ds (.nx (ds.set i (.own xs))) :=
  let ⟨_, p1, q1⟩ := h; ⟨_, ps_set hN hi (locB_ok hx) p1 hs hf, fun Hd0 H0 Hd H σ D S z => q1 Hd H σ S.env _ fun fo ws Hd' H' g hf0 hn hl hd => z _ Hd' H' (S.getOwn i g hf0 hn hl hd) g.d⟩
/-- as data -/
theorem POd'.dat {xs : List PyData} (h : POd' X tb a ds xs) : PEd X tb a ds (.list xs) := by
  obtain ⟨t, p, q⟩ := h
  refine ⟨t, p, fun Hd H σ E Q z => q Hd H σ E Q fun fo ws Hd' H' g hf hn hl hd => ?_⟩
  have s : Sub Hd' (upd Hd' fo (.lst ws)) := fun b o e => by rw [upd_ne (ne_of_none e hn)]; exact e
  refine z (.ref fo) (upd Hd' fo (.lst ws)) H' ⟨g.d.trans s, ⟨fun b o e => ?_, fun b ps e => ?_⟩, g.e, fun b e n => ?_⟩ (.lst (.inl (.inl upd_same)) (DpAll.up hd s))
  · by_cases q1 : b = fo
    · rw [q1, upd_same] at e
      rw [q1, hl, e]
    · rw [upd_ne q1] at e
      exact g.h.s b o e
  · by_cases q1 : b = fo
    · rw [q1, upd_same] at e
      cases e
    · rw [upd_ne q1] at e
      exact g.h.nt b ps e
  · by_cases q1 : b = fo
    · rw [q1] at n
      exact absurd hf n
    · rw [upd_ne q1]
      exact g.f b e n
theorem POd'.is {xs ys : List PyData} (h : POd' X tb a ds xs) (q : xs = ys) : POd' X tb a ds ys := q ▸ h
/-- [c, ..] * n -/
theorem od_rep {xs : List PyData} {i : Int} (ha : PAd X tb args ds xs) (hb : PEd X tb b ds (.int i)) (h0 : -(2 ^ 63) ≤ i ∧ i < 2 ^ 63) (hl : xs.length * i.toNat ≤ 16000000) (hx : xs.length ≤ 1000) : POd' X tb (.BinOp (.List args p1) .Mult b pos) ds (List.replicate i.toNat xs).flatten := by
  obtain ⟨t1, p1, q1⟩ := ha
  obtain ⟨t2, p2, q2⟩ := hb
  refine ⟨_, pe_op op_rep (pe_lst p1) p2, fun Hd H σ E Q z => q1 Hd H σ E _ fun vs Hd1 H1 g1 dv => ⟨by rw [dpa_len dv]; exact Nat.le_trans hx (by decide), fun l hl1 => ?_⟩⟩
  have g1' := g1.trans (Gr.newOut (o := .lst vs) g1.h hl1)
  have hd1 := none_of_dh g1.h hl1
  refine q2 Hd1 _ σ (E.up g1') _ fun v Hd2 H2 g2 dv2 => ?_
  cases dv2
  have hl2 : H2 l = some (.lst vs) := g2.e.k l _ upd_same fun _ z => nomatch z
  refine ⟨l, i, vs, rfl, rfl, hl2, h0.1, h0.2, by rw [dpa_len dv]; exact Nat.le_trans hl (by decide), fun q hq => ?_⟩
  have gq : Gr Hd2 H2 Hd2 (upd H2 q (.lst (List.replicate i.toNat vs).flatten)) := Gr.newOut g2.h hq
  have G := (g1'.trans g2).trans gq
  refine z q _ Hd2 _ G ((g1'.trans g2).e.n q hq) (none_of_dh g2.h hq) upd_same ?_
  have hv := DpAll.up dv g2.d
  generalize i.toNat = n
  clear hl gq G
  induction n with
  | zero => exact .nil
  | succ n ih =>
    rw [List.replicate_succ, List.replicate_succ, List.flatten_cons, List.flatten_cons]
    exact dpa_app hv ih
/-- x[i] = e, x's list one's own -/
theorem dpa_set : ∀ {vs : List V} {zs : List PyData} {Hd : Hp} {n : Nat} {v : V} {d : PyData}, DpAll K Hd vs zs → Dp K Hd v d → DpAll K Hd (vs.set n v) (zs.set n d)
  | _, _, _, _, _, _, .nil, _ => .nil
  | _, _, _, 0, _, _, .cons _ t, h => .cons h t
  | _, _, _, n + 1, _, _, .cons g t, h => .cons g (dpa_set t h)
theorem sd_setItem (i : Nat) {xs : List PyData} {j : Int} {n : Nat} {ppos : Pos} (ha : PEd X tb a ds d) (hb : PEd X tb b ds (.int j)) (hn : ixN xs.length j = some n) (e : ds[i]? = some (.own xs) := by rfl) (hN : X.N[i]? = some x := by rfl) (hv : visB X.env.scope x = true := by rfl) (h1 : (x == ("__debug__" : Str)) = false := by decide) (h2 : (x == ("__classdict__" : Str)) = false := by decide)
    (hgs : ∀ v, assign (.Subscript (.Name x p1) b ppos) X.env v = (do
      let ov ← holding [v] (eval (.Name x p1) X.env)
      let iv ← holding [v, ov] (eval b X.env)
      standAt ppos
      holding [v, ov, iv] (setItem ov iv v)
      release [v, ov, iv] []) := by intro _; rfl)
    (hs : swapsWithSole [.Subscript (.Name x p1) b ppos] a pos.line X.env = pure false := by rfl) (hw : swappedStores [.Subscript (.Name x p1) b ppos] a X.env = pure none := by rfl)
    (h5 : (assignEach [.Subscript (.Name x p1) b ppos] X.env).map (·.2) = [assign (.Subscript (.Name x p1) b ppos) X.env] := by rfl) :
    PSd X tb W (.Assign [.Subscript (.Name x p1) b ppos] a pos) ds (.nx (ds.set i (.own (xs.set n d)))) := by
  obtain ⟨t1, p1, q1⟩ := ha
  obtain ⟨t2, p2, q2⟩ := hb
  refine ⟨_, ps_asg p1 (pg_sub (pe_var hN (visB_ok hv) h1 h2) p2 set_list hgs) hs hw h5, fun Hd0 H0 Hd H σ D S z => q1 Hd H σ S.env _ fun v Hd1 H1 g1 dv => ?_⟩
  have S1 := S.up g1
  obtain ⟨l, vs, ea, hl, hd, hx⟩ := S1.env.own e
  refine ⟨.ref l, ea, q2 Hd1 H1 σ S1.env _ fun u Hd2 H2 g2 du => ?_⟩
  cases du
  have S2 := S1.up g2
  have hl2 : H2 l = some (.lst vs) := g2.e.k l _ hl fun _ z => nomatch z
  have hd2 : Hd2 l = none := g2.f l hd (by rw [hl]; exact fun z => nomatch z)
  have hx2 := DpAll.up hx g2.d
  exact ⟨l, vs, j, n, rfl, rfl, hl2, by rw [dpa_len hx2]; exact hn, z σ Hd2 _ (S2.putOwn e ea hl2 hd2 (dpa_set hx2 (Dp.up dv g2.d))) (g1.d.trans g2.d)⟩
end
end DL
/-! DX: a shelf: its things, and for each key the numbers of its things. -/
namespace SHLF
open PySem PySem.Spec PyProof.Rows L2 DL LM RM PT
/-- the numbers of the things that begin so -/
def idxOf (xs : List S) (k : Str) : List Nat := (List.range xs.length).filter fun i => decide (begT (xs.getD i .fls) = k)
def numS (xs : List S) (s : S) : Option Nat := (List.range xs.length).find? fun i => decide (xs.getD i .fls = s)
theorem idx_snoc (xs : List S) (s : S) (k : Str) : idxOf (xs ++ [s]) k = idxOf xs k ++ (if k = begT s then [xs.length] else []) := by
  unfold idxOf
  rw [List.length_append, List.length_singleton, List.range_succ, List.filter_append, List.filter_cons]
  have e1 : (List.range xs.length).filter (fun i => decide (begT ((xs ++ [s]).getD i .fls) = k)) = (List.range xs.length).filter fun i => decide (begT (xs.getD i .fls) = k) := by
    refine List.filter_congr fun i hi => ?_
    have hi := List.mem_range.mp hi
    rw [List.getD_eq_getElem?_getD, List.getElem?_append_left hi, ← List.getD_eq_getElem?_getD]
  have e2 : (xs ++ [s]).getD xs.length .fls = s := by
    rw [List.getD_eq_getElem?_getD, List.getElem?_append_right (Nat.le_refl _), Nat.sub_self] <;> rfl
  rw [e1, e2]
  by_cases h : k = begT s
  · rw [if_pos h, decide_eq_true h.symm] <;> rfl
  · rw [if_neg h, decide_eq_false fun q => h q.symm] <;> rfl
theorem idx_lt {xs : List S} {k : Str} {i : Nat} (h : i ∈ idxOf xs k) : i < xs.length := List.mem_range.mp (List.mem_filter.mp h).1
theorem idx_len (xs : List S) (k : Str) : (idxOf xs k).length ≤ xs.length := by
  unfold idxOf
  exact Nat.le_trans (List.length_filter_le _ _) (by rw [List.length_range]; exact Nat.le_refl _)
theorem find_filter {α : Type} (p q : α → Bool) : ∀ l : List α, (∀ x ∈ l, q x = true → p x = true) → (l.filter p).find? q = l.find? q
  | [], _ => rfl
  | a :: l, h => by
    have ih := find_filter p q l fun x hx => h x (List.mem_cons_of_mem _ hx)
    rw [List.filter_cons, List.find?_cons]
    cases hq : q a with
    | true =>
      rw [if_pos (h a List.mem_cons_self hq), List.find?_cons, hq]
    | false =>
      split
      · rw [List.find?_cons, hq]
        exact ih
      · exact ih
theorem idx_find (xs : List S) (s : S) : (idxOf xs (begT s)).find? (fun i => decide (xs.getD i .fls = s)) = numS xs s := by
  unfold idxOf numS
  refine find_filter _ _ _ fun i _ h => ?_
  rw [of_decide_eq_true h]
  exact decide_eq_true rfl
theorem num_none {xs : List S} {s : S} : numS xs s = none ↔ s ∉ xs := by
  unfold numS
  rw [List.find?_eq_none]
  constructor
  · intro h hm
    obtain ⟨i, hi, e⟩ := List.getElem_of_mem hm
    refine h i (List.mem_range.mpr hi) (decide_eq_true ?_)
    rw [List.getD_eq_getElem?_getD, List.getElem?_eq_getElem hi]
    exact e
  · intro h i hi q
    have hi := List.mem_range.mp hi
    have q := of_decide_eq_true q
    rw [List.getD_eq_getElem?_getD, List.getElem?_eq_getElem hi] at q
    have q : xs[i] = s := q
    exact h (by rw [← q]; exact List.getElem_mem hi)
theorem num_some {xs : List S} {s : S} {i : Nat} (h : numS xs s = some i) : i < xs.length ∧ xs.getD i .fls = s := by
  unfold numS at h
  exact ⟨List.mem_range.mp (List.mem_of_find?_eq_some h), of_decide_eq_true (List.find?_some (p := fun i => decide (xs.getD i .fls = s)) h)⟩
/-! ### in the heap -/
structure Rws (K : PySem.W.Frag) (H : Hp) (kvs : List (Key × V)) (xs : List S) : Prop where
  there : ∀ (k : Str) (v : V), valV kvs (Sum.inr k : Key) = some v → ∃ l, v = .ref l ∧ H l = some (.lst ((idxOf xs k).map fun (i : Nat) => V.int (i : Int)))
  no : ∀ k : Str, valV kvs (Sum.inr k : Key) = none → idxOf xs k = []
/-- what number asks of a shelf -/
structure ShF (K : PySem.W.Frag) (C sh : Addr) (Hd H : Hp) (xs : List S) : Prop where
  ex : ∃ (dx t r : Addr) (vs : List V) (kvs : List (Key × V)), H sh = some (.ins C dx [("things", .ref t), ("rows", .ref r)]) ∧ H t = some (.lst vs) ∧ DpAll K Hd vs (xs.map enc) ∧ H r = some (.dK kvs) ∧ Rws K H kvs xs
theorem Rws.keeps {K : PySem.W.Frag} {H H' : Hp} {kvs : List (Key × V)} {xs : List S} (R : Rws K H kvs xs) (h : ∀ a o, H a = some o → (∀ ps, o ≠ .tbl ps) → H' a = some o) : Rws K H' kvs xs :=
  ⟨fun k v e => let ⟨l, e1, e2⟩ := R.there k v e; ⟨l, e1, h _ _ e2 fun _ z => nomatch z⟩, R.no⟩
theorem ShF.up {K : PySem.W.Frag} {C sh : Addr} {Hd H Hd' H' : Hp} {xs : List S} (h : ShF K C sh Hd H xs) (g : Gr Hd H Hd' H') : ShF K C sh Hd' H' xs := by
  obtain ⟨dx, t, r, vs, kvs, h1, h2, h3, h4, h5⟩ := h.ex
  exact ⟨dx, t, r, vs, kvs, g.e.k _ _ h1 (fun _ z => nomatch z), g.e.k _ _ h2 (fun _ z => nomatch z), DpAll.up h3 g.d, g.e.k _ _ h4 (fun _ z => nomatch z), h5.keeps g.e.k⟩
/-- a shelf that is being filled: all of it new since the entry -/
structure Shx (K : PySem.W.Frag) (tb : List Addr) (C sh t r : Addr) (Hd0 H0 : Hp) (m : Nat) (Hd H : Hp) (xs : List S) : Prop where
  gr : Gr Hd0 H0 Hd H
  tb : ∀ P ∈ tb, GxR.TabG H P
  ob : ∃ dx, H sh = some (.ins C dx [("things", .ref t), ("rows", .ref r)])
  th : ∃ vs, H t = some (.lst vs) ∧ DpAll K Hd vs (xs.map enc)
  nt : Hd t = none
  nr : Hd r = none
  ns : Hd sh = none
  ft : H0 t = none
  fr : H0 r = none
  fs : H0 sh = none
  rows : ∃ kvs, H r = some (.dK kvs) ∧ kvs.length ≤ m ∧ Rws K H kvs xs ∧ (∀ (k : Str) (l : Addr), valV kvs (Sum.inr k : Key) = some (.ref l) → Hd l = none ∧ l ≠ t ∧ H0 l = none) ∧
    ∀ (k1 k2 : Str) (l : Addr), valV kvs (Sum.inr k1 : Key) = some (.ref l) → valV kvs (Sum.inr k2 : Key) = some (.ref l) → k1 = k2
section
variable {K : PySem.W.Frag} {tb : List Addr} {C sh t r : Addr} {Hd0 H0 : Hp} {m : Nat} {Hd H Hd' H' : Hp} {xs : List S}
theorem Shx.dh (h : Shx K tb C sh t r Hd0 H0 m Hd H xs) : DH Hd H := h.gr.h
theorem Shx.f (h : Shx K tb C sh t r Hd0 H0 m Hd H xs) : ShF K C sh Hd H xs :=
  let ⟨dx, h1⟩ := h.ob; let ⟨vs, h2, h3⟩ := h.th; let ⟨kvs, h4, _, R, _⟩ := h.rows; ⟨dx, t, r, vs, kvs, h1, h2, h3, h4, R⟩
theorem Shx.up (h : Shx K tb C sh t r Hd0 H0 m Hd H xs) (g : Gr Hd H Hd' H') : Shx K tb C sh t r Hd0 H0 m Hd' H' xs := by
  obtain ⟨dx, h1⟩ := h.ob
  obtain ⟨vs, h2, h3⟩ := h.th
  obtain ⟨kvs, h4, h5, R, h6, h7⟩ := h.rows
  refine ⟨h.gr.trans g, fun P hp => g.e.t P (h.tb P hp), ⟨dx, g.e.k _ _ h1 (fun _ z => nomatch z)⟩, ⟨vs, g.e.k _ _ h2 (fun _ z => nomatch z), DpAll.up h3 g.d⟩, g.f _ h.nt (by rw [h2]; exact fun z => nomatch z), g.f _ h.nr (by rw [h4]; exact fun z => nomatch z), g.f _ h.ns (by rw [h1]; exact fun z => nomatch z), h.ft, h.fr, h.fs, kvs, g.e.k _ _ h4 (fun _ z => nomatch z), h5, R.keeps g.e.k, fun k l e => ?_, h7⟩
  obtain ⟨e1, e2, e3⟩ := h6 k l e
  obtain ⟨l', e4, e5⟩ := R.there k _ e
  cases e4
  exact ⟨g.f _ e1 (by rw [e5]; exact fun z => nomatch z), e2, e3⟩
theorem Shx.more {n : Nat} (h : Shx K tb C sh t r Hd0 H0 m Hd H xs) (hn : m ≤ n) : Shx K tb C sh t r Hd0 H0 n Hd H xs :=
  ⟨h.gr, h.tb, h.ob, h.th, h.nt, h.nr, h.ns, h.ft, h.fr, h.fs, let ⟨kvs, h4, h5, R⟩ := h.rows; ⟨kvs, h4, Nat.le_trans h5 hn, R⟩⟩
/-- a thing more: the row's list has its number, then the things have it -/
theorem Shx.put (h : Shx K tb C sh t r Hd0 H0 m Hd H xs) {kvs : List (Key × V)} {l : Addr} {vs : List V} {s : S} {v : V} (hr : H r = some (.dK kvs)) (hk : valV kvs (Sum.inr (begT s) : Key) = some (.ref l)) (ht : H t = some (.lst vs)) (hv : Dp K Hd v (enc s)) :
    Shx K tb C sh t r Hd0 H0 m Hd (upd (upd H l (.lst ((idxOf xs (begT s)).map (fun (i : Nat) => V.int (i : Int)) ++ [.int (xs.length : Int)]))) t (.lst (vs ++ [v]))) (xs ++ [s]) := by
  obtain ⟨dx, h1⟩ := h.ob
  obtain ⟨ws, h2, h3⟩ := h.th
  obtain ⟨kvs', h4, h5, R, h6, h7⟩ := h.rows
  have ek : kvs' = kvs := by
    rw [h4] at hr
    cases hr
    rfl
  subst ek
  have ew : ws = vs := by
    rw [h2] at ht
    cases ht
    rfl
  subst ew
  obtain ⟨e1, e2, e3⟩ := h6 _ _ hk
  obtain ⟨l', e4, e5⟩ := R.there _ _ hk
  cases e4
  have nrl : r ≠ l := fun q => by rw [q, e5] at h4; cases h4
  have nsl : sh ≠ l := fun q => by rw [q, e5] at h1; cases h1
  have nrt : r ≠ t := fun q => by rw [q, h2] at h4; cases h4
  have nst : sh ≠ t := fun q => by rw [q, h2] at h1; cases h1
  have htab : ∀ {a : Addr} {us : List V}, H a = some (.lst us) → ∀ ps, H a ≠ some (.tbl ps) := fun e ps z => by rw [e] at z; cases z
  refine ⟨gr_upd (gr_upd h.gr e3 e1) h.ft h.nt, fun P hP => tab_upd (tab_upd (h.tb P hP) (htab e5)) (fun ps z => by rw [upd_ne e2.symm, h2] at z; cases z), ⟨dx, by rw [upd_ne nst, upd_ne nsl]; exact h1⟩, ⟨_, upd_same, ?_⟩, h.nt, h.nr, h.ns, h.ft, h.fr, h.fs, kvs', by rw [upd_ne nrt, upd_ne nrl]; exact h4, h5, ⟨fun j u e => ?_, fun j e => ?_⟩, h6, h7⟩
  · rw [List.map_append]
    exact dpa_app h3 (.cons hv .nil)
  · obtain ⟨l2, g1, g2⟩ := R.there j u e
    subst g1
    have n2 : l2 ≠ t := (h6 j l2 e).2.1
    rw [idx_snoc, List.map_append]
    by_cases q : l2 = l
    · subst q
      have ej := h7 j _ l2 e hk
      refine ⟨l2, rfl, ?_⟩
      rw [upd_ne n2, upd_same, ej, if_pos rfl]
      rfl
    · have nj : ¬ j = begT s := fun z => by
        rw [z, hk] at e
        cases e
        exact q rfl
      refine ⟨l2, rfl, ?_⟩
      rw [upd_ne n2, upd_ne q, if_neg nj]
      show H l2 = some (.lst (_ ++ []))
      rw [List.append_nil]
      exact g2
  · have nj : ¬ j = begT s := fun z => by
      rw [z, hk] at e
      cases e
    rw [idx_snoc, if_neg nj, R.no j e] <;> rfl
/-- a new row of nothing -/
theorem Shx.addRow (h : Shx K tb C sh t r Hd0 H0 m Hd H xs) {p : Addr} {kvs : List (Key × V)} {k : Str} (hp : H p = some (.lst [])) (hd : Hd p = none) (h0 : H0 p = none) (hf : p ≠ t) (hnew : ∀ j, valV kvs (Sum.inr j : Key) ≠ some (.ref p)) (hr : H r = some (.dK kvs)) (hk : valV kvs (Sum.inr k : Key) = none) :
    Shx K tb C sh t r Hd0 H0 (m + 1) Hd (upd H r (.dK (putK kvs (Sum.inr k : Key) (.ref p)))) xs := by
  obtain ⟨dx, h1⟩ := h.ob
  obtain ⟨vs, h2, h3⟩ := h.th
  obtain ⟨kvs', h4, h5, R, h6, h7⟩ := h.rows
  have ek : kvs' = kvs := by
    rw [h4] at hr
    cases hr
    rfl
  subst ek
  have ne : ∀ {a : Addr} {us : List V}, H a = some (.lst us) → a ≠ r := fun {a us} e q => by rw [q, h4] at e; cases e
  have nsh : sh ≠ r := fun q => by rw [q, h4] at h1; cases h1
  refine ⟨gr_upd h.gr h.fr h.nr, fun P hP => tab_upd (h.tb P hP) (fun ps z => by rw [h4] at z; cases z), ⟨dx, by rw [upd_ne nsh]; exact h1⟩, ⟨vs, by rw [upd_ne (ne h2)]; exact h2, h3⟩, h.nt, h.nr, h.ns, h.ft, h.fr, h.fs, _, upd_same, Nat.le_trans (length_putK _ _ _) (by omega), ⟨fun j v e => ?_, fun j e => ?_⟩, fun j l e => ?_, fun j1 j2 l e1 e2 => ?_⟩
  · rw [valV_put] at e
    split at e
    · rename_i q
      have q : j = k := Sum.inr.inj q
      cases e
      refine ⟨p, rfl, ?_⟩
      rw [upd_ne (ne hp), q, R.no k hk]
      exact hp
    · obtain ⟨l, e1, e2⟩ := R.there j v e
      exact ⟨l, e1, by rw [upd_ne (ne e2)]; exact e2⟩
  · rw [valV_put] at e
    split at e
    · cases e
    · exact R.no j e
  · rw [valV_put] at e
    split at e
    · cases e
      exact ⟨hd, hf, h0⟩
    · exact h6 j l e
  · rw [valV_put] at e1 e2
    split at e1
    · rename_i q1
      split at e2
      · rename_i q2
        exact (Sum.inr.inj q1).trans (Sum.inr.inj q2).symm
      · cases e1
        exact absurd e2 (hnew j2)
    · split at e2
      · cases e2
        exact absurd e1 (hnew j1)
      · exact h7 j1 j2 l e1 e2
end
/-! ### what is new since the entry, as data -/
open Classical in
noncomputable def frz (Hd H0 H : Hp) : Hp := fun a => if H0 a = none then noTab H a else Hd a
theorem frz_new {Hd H0 H : Hp} {a : Addr} (h : H0 a = none) : frz Hd H0 H a = noTab H a := if_pos h
theorem frz_old {Hd H0 H : Hp} {a : Addr} (h : H0 a ≠ none) : frz Hd H0 H a = Hd a := if_neg h
theorem gr_frzAll {Hd0 H0 Hd H : Hp} (g : Gr Hd0 H0 Hd H) : Sub Hd (frz Hd H0 H) ∧ Gr Hd0 H0 (frz Hd H0 H) H := by
  have s : Sub Hd (frz Hd H0 H) := fun a o e => by
    by_cases q : H0 a = none
    · rw [frz_new q]
      exact noTab_at (g.h.s a o e) fun ps z => g.h.nt a ps (by rw [e, z])
    · rw [frz_old q]
      exact e
  refine ⟨s, g.d.trans s, ⟨fun a o e => ?_, fun a ps e => ?_⟩, g.e, fun a e n => ?_⟩
  · by_cases q : H0 a = none
    · rw [frz_new q] at e
      exact (noTab_dh H).s a o e
    · rw [frz_old q] at e
      exact g.h.s a o e
  · by_cases q : H0 a = none
    · rw [frz_new q] at e
      exact (noTab_dh H).nt a ps e
    · rw [frz_old q] at e
      exact g.h.nt a ps e
  · rw [frz_old n]
    exact g.f a e n
end SHLF
/-! DY: a shelf that is looked at. -/
namespace SHLF
open PySem PySem.Spec PyProof.Rows L2 DL LM RM PT
theorem ShF.sub {K : PySem.W.Frag} {C sh : Addr} {A B : Hp} {xs : List S} (h : ShF K C sh A A xs) (s : Sub A B) : ShF K C sh B B xs := by
  obtain ⟨dx, t, r, vs, kvs, h1, h2, h3, h4, h5⟩ := h.ex
  exact ⟨dx, t, r, vs, kvs, s _ _ h1, s _ _ h2, DpAll.up h3 s, s _ _ h4, h5.keeps fun a o e _ => s a o e⟩
def shelfS (K : PySem.W.Frag) (C : Addr) (xs : List S) : Sl := .hp (fun v Hd => ∃ sh, v = .ref sh ∧ ShF K C sh Hd Hd xs) fun _ _ _ s ⟨sh, e, h⟩ => ⟨sh, e, h.sub s⟩
/-- the class Shelf -/
structure ShC (K : PySem.W.Frag) (mg : Str → Option Value) (C : Addr) : Prop where
  cl : Cls K C
  nR : NoAttr K C "rows"
  nT : NoAttr K C "things"
  g : mg "Shelf" = some (.ref C)
theorem shf_noTab {K : PySem.W.Frag} {C sh : Addr} {Hd H : Hp} {xs : List S} (D : DH Hd H) (h : ShF K C sh Hd H xs) : ShF K C sh (noTab H) (noTab H) xs := by
  obtain ⟨dx, t, r, vs, kvs, h1, h2, h3, h4, h5⟩ := h.ex
  have s : Sub Hd (noTab H) := fun a o e => noTab_at (D.s a o e) fun ps z => D.nt a ps (by rw [e, z])
  exact ⟨dx, t, r, vs, kvs, noTab_at h1 (fun _ z => nomatch z), noTab_at h2 (fun _ z => nomatch z), DpAll.up h3 s, noTab_at h4 (fun _ z => nomatch z), h5.keeps fun a o e n => noTab_at e n⟩
/-- all of the heap taken as data, nothing of it changed: nothing else is seen -/
theorem gr_back {Hd H Hd' H' : Hp} (D : DH Hd H) (g : Gr (noTab H) H Hd' H') : Gr Hd H Hd H' :=
  ⟨Sub.refl _, ⟨fun a o e => g.e.k a o (D.s a o e) fun ps z => D.nt a ps (by rw [e, z]), D.nt⟩, g.e, fun a e _ => e⟩
section
variable {X : Cx} {tb : List Addr} {ds : List Sl} {a b : Expr} {pos p px cpos apos : Pos} {x : Str} {xs : List S} {C : Addr} {k : Nat}
/-- shelf.things -/
theorem ed_things (i : Nat) (T : ShC X.K X.mg C) (hd : ds[i]? = some (shelfS X.K C xs) := by rfl) (hN : X.N[i]? = some x := by rfl) (hv : visB X.env.scope x = true := by rfl) (h1 : (x == ("__debug__" : Str)) = false := by decide) (h2 : (x == ("__classdict__" : Str)) = false := by decide) (hb : attributeBase (.Name x px) "things" X.env (eval (.Name x px) X.env) = eval (.Name x px) X.env := by rfl) :
    PEd X tb (.Attribute (.Name x px) "things" pos) ds (.list (xs.map enc)) :=
  ⟨_, pe_fld (pe_var hN (visB_ok hv) h1 h2) hb, fun Hd H σ E Q q => by
    obtain ⟨o, e1, e2⟩ := E.sl i _ hd
    cases o with
    | none => exact e2.elim
    | some w =>
      obtain ⟨sh, rfl, F⟩ : ∃ sh, w = .ref sh ∧ ShF X.K C sh Hd Hd xs := e2
      obtain ⟨dx, t, r, vs, kvs, h1, h2, h3, h4, h5⟩ := F.ex
      exact ⟨_, e1, sh, C, dx, _, _, rfl, E.dh.s _ _ h1, T.cl, T.nT, rfl, q _ Hd H (Gr.refl E.dh) (.lst (.of h2) h3)⟩⟩
def natsV (l : List Nat) : List PyData := l.map fun (i : Nat) => PyData.int (i : Int)
theorem dpa_nats {K : PySem.W.Frag} {Hd : Hp} : ∀ l : List Nat, DpAll K Hd (l.map fun (i : Nat) => V.int (i : Int)) (natsV l)
  | [] => .nil
  | i :: r => .cons (.int _) (dpa_nats r)
/-- shelf.rows.get(words, []) -/
theorem ed_rowOf (i : Nat) {z : Str} {p1 p2 : Pos} (hr : Room k X.A) (T : ShC X.K X.mg C) (ha : PEd X tb a ds (.str z)) (hd : ds[i]? = some (shelfS X.K C xs) := by rfl) (hN : X.N[i]? = some x := by rfl) (hv : visB X.env.scope x = true := by rfl) (h1 : (x == ("__debug__" : Str)) = false := by decide) (h2 : (x == ("__classdict__" : Str)) = false := by decide) (hb : attributeBase (.Name x px) "rows" X.env (eval (.Name x px) X.env) = eval (.Name x px) X.env := by rfl)
    (hbase : attributeBase (.Attribute (.Name x px) "rows" p1) "get" X.env (eval (.Attribute (.Name x px) "rows" p1) X.env) = eval (.Attribute (.Name x px) "rows" p1) X.env := by rfl)
    (hfew : ((backTo cpos (starEach [a, .List [] p2] X.env)).all (fun x => !x.1) && (backToKw cpos (keywordEach [] X.env)).all (fun x => x.1.isSome)
      && decide (([a, .List [] p2] : List Expr).length + ([] : List Keyword).length + (if ([] : List Keyword).isEmpty then 0 else 1) < 30)) = true := by rfl)
    (hline : (apos.endLine == cpos.line) = true := by rfl) (htrees : backTo cpos (starEach [a, .List [] p2] X.env) = [(false, eval a X.env), (false, eval (.List [] p2) X.env)] := by rfl) :
    PEd X tb (.Call (.Attribute (.Attribute (.Name x px) "rows" p1) "get" apos) [a, .List [] p2] [] cpos) ds (.list (natsV (idxOf xs z))) := by
  obtain ⟨t1, q1, r1⟩ := ha
  refine ⟨_, pe_dget2 (hu_of hr) (pe_fld (pe_var hN (visB_ok hv) h1 h2) hb) q1 (pe_lst pa_nil) ⟨hbase, hfew, hline, htrees⟩, fun Hd H σ E Q q => ?_⟩
  obtain ⟨o, e1, e2⟩ := E.sl i _ hd
  cases o with
  | none => exact e2.elim
  | some w =>
    obtain ⟨sh, rfl, F⟩ : ∃ sh, w = .ref sh ∧ ShF X.K C sh Hd Hd xs := e2
    obtain ⟨dx, t, r, vs, kvs, h1, h2, h3, h4, R⟩ := F.ex
    refine ⟨_, e1, sh, C, dx, _, _, rfl, E.dh.s _ _ h1, T.cl, T.nR, rfl, r, rfl, .inl ⟨kvs, .inl (E.dh.s _ _ h4)⟩, r1 Hd H σ E _ fun v Hd1 H1 g1 dv => ?_⟩
    cases dv
    refine ⟨Nat.zero_le _, fun c hc => ?_⟩
    have g2 := Gr.new (o := .lst []) g1.h hc fun _ z => HO.noConfusion z
    have h4' : (upd Hd1 c (.lst [])) r = some (.dK kvs) := g2.d _ _ (g1.d _ _ h4)
    refine ⟨_, DGet.k (k := Sum.inr z) (g2.h.s r _ h4'), ?_⟩
    cases e : valV kvs (.inr z) with
    | none =>
      have hn := R.no z e
      rw [hn] at q
      exact q (.ref c) _ _ (g1.trans g2) (.lst (xs := []) (.of upd_same) .nil)
    | some v =>
      obtain ⟨l, rfl, hl⟩ := R.there z v e
      exact q (.ref l) _ _ (g1.trans g2) (.lst (.of (g2.d _ _ (g1.d _ _ hl))) (dpa_nats _))
end
end SHLF
/-! DZ: the parts, half by half. -/
namespace SHLF
open PySem PySem.Spec PyProof.Rows L2 DL LM RM PT
def foldP (l : List S) (f : List S) : List S := l.foldl (fun f h => lp h f) f
theorem lp_in {s : S} {f : List S} (h : s ∈ f) : lp s f = f := by cases s <;> (unfold lp; exact if_pos h)
theorem lp_out {s : S} {f : List S} (h : s ∉ f) : lp s f = foldP (halvesS s) f ++ [s] := by cases s <;> (unfold lp; exact if_neg h)
theorem lp_low : ∀ (s : S) (f : List S) (x : S), dep s < dep x → (x ∈ lp s f ↔ x ∈ f)
  | .nm v, f, x, h => by
    have ne : x ≠ .nm v := fun q => by rw [q] at h; exact absurd h (Nat.lt_irrefl _)
    unfold lp
    split
    · exact Iff.rfl
    · rw [List.mem_append, List.mem_singleton]
      exact ⟨fun q => q.elim id fun z => absurd z ne, .inl⟩
  | .fls, f, x, h => by
    have ne : x ≠ .fls := fun q => by rw [q] at h; exact absurd h (Nat.lt_irrefl _)
    unfold lp
    split
    · exact Iff.rfl
    · rw [List.mem_append, List.mem_singleton]
      exact ⟨fun q => q.elim id fun z => absurd z ne, .inl⟩
  | .bin o a b, f, x, h => by
    have ne : x ≠ .bin o a b := fun q => by rw [q] at h; exact absurd h (Nat.lt_irrefl _)
    have h : max (dep a) (dep b) + 1 < dep x := h
    unfold lp
    split
    · exact Iff.rfl
    · rw [List.mem_append, List.mem_singleton, lp_low b _ x (by omega), lp_low a _ x (by omega)]
      exact ⟨fun q => q.elim id fun z => absurd z ne, .inl⟩
theorem foldP_low {s : S} {f : List S} (h : s ∉ f) : s ∉ foldP (halvesS s) f := by
  cases s with
  | nm v => exact h
  | fls => exact h
  | bin o a b =>
    show S.bin o a b ∉ lp b (lp a f)
    rw [lp_low b _ (S.bin o a b) (show dep b < max (dep a) (dep b) + 1 by omega), lp_low a _ (S.bin o a b) (show dep a < max (dep a) (dep b) + 1 by omega)]
    exact h
theorem foldP_snoc (l : List S) (h : S) (f : List S) : foldP (l ++ [h]) f = lp h (foldP l f) := by
  unfold foldP
  rw [List.foldl_append] <;> rfl
theorem foldP_len : ∀ (l : List S) (f : List S), (foldP l f).length ≤ f.length + szs l
  | [], f => Nat.le_add_right _ _
  | h :: l, f => by
    have h1 := lp_len h f
    have h2 := foldP_len l (lp h f)
    have e : szs (h :: l) = sz h + szs l := by
      unfold szs
      rw [List.map_cons, List.sum_cons]
    rw [e]
    show (foldP l (lp h f)).length ≤ _
    omega
theorem foldP_good {n : Nat} : ∀ (l : List S) (f : List S), (∀ x ∈ l, Ok x ∧ dep x ≤ n) → Good n f → Good n (foldP l f)
  | [], f, _, h => h
  | h :: l, f, hl, g => by
    obtain ⟨a, b⟩ := hl h List.mem_cons_self
    exact foldP_good l (lp h f) (fun x hx => hl x (List.mem_cons_of_mem _ hx)) (lp_good h f a b g)
end SHLF
/-! PK: what is a statement, of any data, in plain Lean: by depth, and level by level with equal ones left out. -/
namespace PK
open PySem PySem.Spec PyProof.Rows L2 DL LM RM
def wordIs (d : PyData) (z : Str) : Bool := PyData.eqv d (.str z)
def joinD (d : PyData) : Bool := wordIs d "and" || (wordIs d "or" || wordIs d "then")
def formedD : PyData → Bool
  | .tuple [w] => wordIs w "false"
  | .tuple [w, x] => wordIs w "name" && isNmD x
  | .tuple [w, _, _] => joinD w
  | _ => false
def halvesD : PyData → List PyData
  | .tuple [_, a, b] => [a, b]
  | _ => []
def isD : Nat → PyData → Bool
  | 0, _ => false
  | _ + 1, .tuple [w] => wordIs w "false"
  | _ + 1, .tuple [w, x] => wordIs w "name" && isNmD x
  | n + 1, .tuple [w, a, b] => joinD w && (isD n a && isD n b)
  | _ + 1, _ => false
theorem isD_succ (n : Nat) (x : PyData) : isD (n + 1) x = (formedD x && (halvesD x).all (isD n)) := by
  cases x with
  | tuple xs =>
    match xs with
    | [] => rfl
    | [w] => exact (Bool.and_true _).symm
    | [w, x] => exact (Bool.and_true _).symm
    | [w, a, b] =>
      show (joinD w && (isD n a && isD n b)) = (joinD w && (isD n a && (isD n b && true)))
      rw [Bool.and_true]
    | _ :: _ :: _ :: _ :: _ => rfl
  | none => rfl
  | bool _ => rfl
  | int _ => rfl
  | str _ => rfl
  | list _ => rfl
  | dict _ => rfl
theorem eqv_str_l {d : PyData} {z : Str} : PyData.eqv d (.str z) = true ↔ d = .str z := by
  constructor
  · intro h
    cases d with
    | str x =>
      have h : (x == z) = true := h
      rw [beq_iff_eq.mp h]
    | _ => cases h
  · intro h
    rw [h]
    exact beq_self_eq_true z
theorem eqv_word {d e : PyData} (h : PyData.eqv d e = true) (z : Str) : wordIs d z = wordIs e z := by
  unfold wordIs
  rw [Bool.eq_iff_iff, eqv_str_l, eqv_str_l]
  constructor
  · intro q
    subst q
    cases e with
    | str x =>
      have h : (z == x) = true := h
      rw [beq_iff_eq.mp h]
    | _ => cases h
  · intro q
    subst q
    exact eqv_str_l.mp h
theorem eqv_join {d e : PyData} (h : PyData.eqv d e = true) : joinD d = joinD e := by
  unfold joinD
  rw [eqv_word h, eqv_word h, eqv_word h]
theorem eqv_nm {d e : PyData} (h : PyData.eqv d e = true) : isNmD d = isNmD e := by
  cases d with
  | str x =>
    cases e with
    | str y =>
      have h : (x == y) = true := h
      rw [beq_iff_eq.mp h]
    | _ => cases h
  | _ =>
    cases e with
    | str y => cases h
    | _ => rfl
theorem eqvAll_cons {x y : PyData} {xs ys : List PyData} (h : PyData.eqvAll (x :: xs) (y :: ys) = true) : PyData.eqv x y = true ∧ PyData.eqvAll xs ys = true := by
  have h : (PyData.eqv x y && PyData.eqvAll xs ys) = true := h
  exact Bool.and_eq_true_iff.mp h
theorem eqv_formed {d e : PyData} (h : PyData.eqv d e = true) : formedD d = formedD e := by
  cases d with
  | tuple xs =>
    cases e with
    | tuple ys =>
      have h : PyData.eqvAll xs ys = true := h
      match xs, ys, h with
      | [], [], _ => rfl
      | [], _ :: _, h => cases h
      | _ :: _, [], h => cases h
      | [a], [b], h => exact eqv_word (eqvAll_cons h).1 _
      | [a], _ :: _ :: _, h => cases (eqvAll_cons h).2
      | _ :: _ :: _, [b], h => cases (eqvAll_cons h).2
      | [a, b], [c, d], h =>
        obtain ⟨h1, h2⟩ := eqvAll_cons h
        show (wordIs a "name" && isNmD b) = (wordIs c "name" && isNmD d)
        rw [eqv_word h1, eqv_nm (eqvAll_cons h2).1]
      | [a, b], _ :: _ :: _ :: _, h => cases (eqvAll_cons (eqvAll_cons h).2).2
      | _ :: _ :: _ :: _, [c, d], h => cases (eqvAll_cons (eqvAll_cons h).2).2
      | [a, b, c], [d, e, f], h => exact eqv_join (eqvAll_cons h).1
      | [a, b, c], _ :: _ :: _ :: _ :: _, h => cases (eqvAll_cons (eqvAll_cons (eqvAll_cons h).2).2).2
      | _ :: _ :: _ :: _ :: _, [d, e, f], h => cases (eqvAll_cons (eqvAll_cons (eqvAll_cons h).2).2).2
      | _ :: _ :: _ :: _ :: _, _ :: _ :: _ :: _ :: _, _ => rfl
    | _ => cases h
  | _ =>
    cases e with
    | tuple ys => cases h
    | _ => rfl
theorem eqv_isD : ∀ (n : Nat) (d e : PyData), PyData.eqv d e = true → isD n d = isD n e
  | 0, _, _, _ => rfl
  | n + 1, d, e, h => by
    rw [isD_succ, isD_succ, eqv_formed h]
    refine congrArg _ ?_
    cases d with
    | tuple xs =>
      cases e with
      | tuple ys =>
        have h : PyData.eqvAll xs ys = true := h
        match xs, ys, h with
        | [], [], _ => rfl
        | [], _ :: _, h => cases h
        | _ :: _, [], h => cases h
        | [a], [b], h => rfl
        | [a], _ :: _ :: _, h => cases (eqvAll_cons h).2
        | _ :: _ :: _, [b], h => cases (eqvAll_cons h).2
        | [a, b], [c, d], h => rfl
        | [a, b], _ :: _ :: _ :: _, h => cases (eqvAll_cons (eqvAll_cons h).2).2
        | _ :: _ :: _ :: _, [c, d], h => cases (eqvAll_cons (eqvAll_cons h).2).2
        | [a, b, c], [d, e, f], h =>
          obtain ⟨h1, h2⟩ := eqvAll_cons h
          obtain ⟨h3, h4⟩ := eqvAll_cons h2
          show (isD n b && (isD n c && true)) = (isD n e && (isD n f && true))
          rw [eqv_isD n b e h3, eqv_isD n c f (eqvAll_cons h4).1]
        | [a, b, c], _ :: _ :: _ :: _ :: _, h => cases (eqvAll_cons (eqvAll_cons (eqvAll_cons h).2).2).2
        | _ :: _ :: _ :: _ :: _, [d, e, f], h => cases (eqvAll_cons (eqvAll_cons (eqvAll_cons h).2).2).2
        | _ :: _ :: _ :: _ :: _, _ :: _ :: _ :: _ :: _, _ => rfl
      | _ => cases h
    | _ =>
      cases e with
      | tuple ys => cases h
      | _ => rfl
/-- k holds of l what is left when equal ones go -/
structure Ded (l k : List PyData) : Prop where
  sub : ∀ x ∈ k, x ∈ l
  rep : ∀ x ∈ l, ∃ y ∈ k, PyData.eqv y x = true
theorem Ded.all {l k : List PyData} (h : Ded l k) (n : Nat) : k.all (isD n) = l.all (isD n) := by
  rw [Bool.eq_iff_iff, List.all_eq_true, List.all_eq_true]
  constructor
  · intro q x hx
    obtain ⟨y, hy, e⟩ := h.rep x hx
    rw [← eqv_isD n y x e]
    exact q y hy
  · exact fun q x hx => q x (h.sub x hx)
/-- level by level: below tells the next level of one that is all formed -/
def levels (below : List PyData → List PyData) : Nat → List PyData → Bool
  | 0, l => l.isEmpty
  | n + 1, l => l.all formedD && levels below n (below l)
theorem levels_isD {below : List PyData → List PyData} (hb : ∀ l, l.all formedD = true → Ded (l.flatMap halvesD) (below l)) : ∀ (n : Nat) (l : List PyData), levels below n l = l.all (isD n)
  | 0, l => by
    cases l with
    | nil => rfl
    | cons x r => rfl
  | n + 1, l => by
    show (l.all formedD && levels below n (below l)) = _
    rw [levels_isD hb n (below l)]
    have e : l.all (isD (n + 1)) = (l.all formedD && (l.flatMap halvesD).all (isD n)) := by
      have e1 : isD (n + 1) = fun x => formedD x && (halvesD x).all (isD n) := funext (isD_succ n)
      rw [e1]
      clear hb e1
      induction l with
      | nil => rfl
      | cons x r ih =>
        rw [List.all_cons, ih, List.all_cons, List.flatMap_cons, List.all_append]
        cases formedD x <;> cases (halvesD x).all (isD n) <;> cases r.all formedD <;> rfl
    rw [e]
    cases q : l.all formedD with
    | false => rfl
    | true => rw [(hb l q).all n]
end PK
namespace PK
open PySem PySem.Spec PyProof.Rows L2 DL LM RM
/-! ### what may be compared, measured -/
mutual
def fineD : PyData → Bool
  | .str x => decide (x.length ≤ 1000)
  | .list xs => fineAll xs
  | .tuple xs => fineAll xs
  | _ => true
def fineAll : List PyData → Bool
  | [] => true
  | x :: xs => fineD x && fineAll xs
end
structure Fn (n : Nat) (d : PyData) : Prop where
  lay : d.canLay0 = true
  dp : d.depth ≤ n
  fi : fineD d = true
theorem Fn.shaped {n : Nat} {d : PyData} (h : Fn n d) (hn : n ≤ 64) : SeqAt.shaped d = true := by
  unfold SeqAt.shaped
  rw [h.lay, decide_eq_true (Nat.le_trans h.dp hn)] <;> rfl
theorem lay_mem : ∀ {xs : List PyData}, PyData.canLayAll0 xs = true → ∀ x ∈ xs, x.canLay0 = true
  | y :: r, h, x, hx => by
    have h : (y.canLay0 && PyData.canLayAll0 r) = true := h
    obtain ⟨h1, h2⟩ := Bool.and_eq_true_iff.mp h
    rcases List.mem_cons.mp hx with rfl | hx
    · exact h1
    · exact lay_mem h2 x hx
theorem fine_mem : ∀ {xs : List PyData}, fineAll xs = true → ∀ x ∈ xs, fineD x = true
  | y :: r, h, x, hx => by
    have h : (fineD y && fineAll r) = true := by
      rw [fineAll] at h
      exact h
    obtain ⟨h1, h2⟩ := Bool.and_eq_true_iff.mp h
    rcases List.mem_cons.mp hx with rfl | hx
    · exact h1
    · exact fine_mem h2 x hx
theorem dep_mem : ∀ {xs : List PyData}, ∀ x ∈ xs, x.depth ≤ PyData.depthAll xs
  | y :: r, x, hx => by
    have e : PyData.depthAll (y :: r) = max y.depth (PyData.depthAll r) := by rw [PyData.depthAll]
    rw [e]
    rcases List.mem_cons.mp hx with rfl | hx
    · exact Nat.le_max_left _ _
    · exact Nat.le_trans (dep_mem x hx) (Nat.le_max_right _ _)
theorem Fn.mem {n : Nat} {xs : List PyData} (h : Fn (n + 1) (.tuple xs)) {x : PyData} (hx : x ∈ xs) : Fn n x := by
  have h1 : PyData.canLayAll0 xs = true := by
    have := h.lay
    rw [PyData.canLay0] at this
    exact this
  have h2 : PyData.depthAll xs + 1 ≤ n + 1 := by
    have := h.dp
    rw [PyData.depth] at this
    exact this
  have h3 : fineAll xs = true := by
    have := h.fi
    rw [fineD] at this
    exact this
  have := dep_mem x hx
  exact ⟨lay_mem h1 x hx, by omega, fine_mem h3 x hx⟩
theorem Fn.mono {n m : Nat} {d : PyData} (h : Fn n d) (hm : n ≤ m) : Fn m d := ⟨h.lay, Nat.le_trans h.dp hm, h.fi⟩
theorem Fn.pos {n : Nat} {xs : List PyData} (h : Fn n (.tuple xs)) : ∃ k, n = k + 1 := by
  have := h.dp
  rw [PyData.depth] at this
  exact ⟨n - 1, by omega⟩
theorem Fn.str {n : Nat} {z : Str} (h : Fn n (.str z)) : z.length ≤ 1000 := by
  have := h.fi
  rw [fineD] at this
  exact of_decide_eq_true this
theorem Fn.sz {n : Nat} {d : PyData} (h : Fn n d) : ∀ z, d = .str z → z.length ≤ 16000000 := fun z e => by
  subst e
  exact Nat.le_trans h.str (by decide)
end PK
namespace PK
open PySem PySem.Spec PyProof.Rows L2 DL LM RM
/-! ### the beginning of any datum -/
def isJ : PyData → Bool
  | .tuple [w, _, _] => joinD w
  | _ => false
def nxD : PyData → PyData
  | .tuple [_, a, _] => a
  | d => d
def hdS : PyData → Str
  | .tuple (.str z :: _) => z
  | _ => ""
def itD (d : PyData) : Nat → PyData
  | 0 => d
  | n + 1 => nxD (itD d n)
theorem itD_nx (d : PyData) : ∀ n : Nat, itD (nxD d) n = itD d (n + 1)
  | 0 => rfl
  | n + 1 => by
    show nxD (itD (nxD d) n) = nxD (itD d (n + 1))
    rw [itD_nx d n]
def stD : Nat → PyData → Nat
  | 0, _ => 0
  | n + 1, d => if isJ d = true then stD n (nxD d) + 1 else 0
theorem stD_le : ∀ (n : Nat) (d : PyData), stD n d ≤ n
  | 0, _ => Nat.le_refl _
  | n + 1, d => by
    unfold stD
    split
    · exact Nat.succ_le_succ (stD_le n _)
    · exact Nat.zero_le _
theorem stD_on : ∀ (n : Nat) (d : PyData) (i : Nat), i < stD n d → isJ (itD d i) = true
  | 0, _, i, h => absurd h (Nat.not_lt_zero _)
  | n + 1, d, i, h => by
    unfold stD at h
    split at h
    · rename_i hj
      cases i with
      | zero => exact hj
      | succ i =>
        have := stD_on n (nxD d) i (by omega)
        rw [itD_nx] at this
        exact this
    · exact absurd h (Nat.not_lt_zero _)
theorem isJ_some {d : PyData} (h : isJ d = true) : ∃ (z : Str) (a b : PyData), d = .tuple [.str z, a, b] ∧ (z = "and" ∨ z = "or" ∨ z = "then") := by
  unfold isJ at h
  split at h
  · rename_i w a b
    unfold joinD at h
    rw [Bool.or_eq_true, Bool.or_eq_true] at h
    rcases h with h | h | h
    · exact ⟨_, a, b, by rw [eqv_str_l.mp h], .inl rfl⟩
    · exact ⟨_, a, b, by rw [eqv_str_l.mp h], .inr (.inl rfl)⟩
    · exact ⟨_, a, b, by rw [eqv_str_l.mp h], .inr (.inr rfl)⟩
  · cases h
theorem nx_depth {d : PyData} (h : isJ d = true) : (nxD d).depth < d.depth := by
  obtain ⟨z, a, b, rfl, _⟩ := isJ_some h
  show a.depth < PyData.depth (.tuple [.str z, a, b])
  simp only [PyData.depth, PyData.depthAll]
  omega
theorem stD_off : ∀ (n : Nat) (d : PyData), d.depth ≤ n → isJ (itD d (stD n d)) = false
  | 0, d, h => by
    cases q : isJ (itD d (stD 0 d)) with
    | false => rfl
    | true =>
      have := nx_depth q
      have e : itD d (stD 0 d) = d := rfl
      rw [e] at this
      omega
  | n + 1, d, h => by
    unfold stD
    by_cases hj : isJ d = true
    · rw [if_pos hj]
      have l := nx_depth hj
      have := stD_off n (nxD d) (by omega)
      rw [itD_nx] at this
      exact this
    · rw [if_neg hj]
      cases q : isJ d with
      | false => exact q
      | true => exact absurd q hj
theorem Fn.nx {n : Nat} {d : PyData} (h : Fn n d) : Fn n (nxD d) := by
  unfold nxD
  split
  · rename_i w a b
    obtain ⟨k, rfl⟩ := h.pos
    exact (h.mem (.tail _ (.head _))).mono (Nat.le_succ _)
  · exact h
theorem Fn.it {n : Nat} {d : PyData} (h : Fn n d) : ∀ i : Nat, Fn n (itD d i)
  | 0 => h
  | i + 1 => (Fn.it h i).nx
theorem isJ_formed {d : PyData} (h : isJ d = true) : formedD d = true := by
  obtain ⟨z, a, b, rfl, _⟩ := isJ_some h
  exact h
/-- the texts in a datum that is formed and has no halves -/
def tailD : PyData → List Str
  | .tuple [.str z] => [z]
  | .tuple [.str z, .str y] => [z, y]
  | _ => []
def begWD (d : PyData) : List Str := (List.range (stD 64 d)).map (fun j => hdS (itD d j)) ++ (if formedD (itD d (stD 64 d)) = true then tailD (itD d (stD 64 d)) else [])
def begTD (d : PyData) : Str := Txt.join " " (begWD d)
end PK
/-! TR: trees of worlds in plain Lean. -/
namespace TR
open PySem PySem.Spec PyProof.Rows L2 DL LM RM PK
/-- data of bounded width -/
inductive Bd : PyData → Prop where
  | non : Bd .none
  | bl (b : Bool) : Bd (.bool b)
  | int (i : Int) : Bd (.int i)
  | str (z : Str) (h : z.length ≤ 1000) (k : PyData.strOk z = true) : Bd (.str z)
  | lst (xs : List PyData) (h : xs.length ≤ 1000) (k : ∀ x ∈ xs, Bd x) : Bd (.list xs)
  | tup (xs : List PyData) (h : xs.length ≤ 1000) (k : ∀ x ∈ xs, Bd x) : Bd (.tuple xs)
def strD : PyData → Str
  | .str z => z
  | _ => ""
def strsOf : PyData → List Str
  | .tuple xs => xs.map strD
  | _ => []
theorem nm_str {d : PyData} (h : isNmD d = true) : d = .str (strD d) := by
  cases d <;> first | rfl | cases h
theorem nms_strs : ∀ {xs : List PyData}, xs.all isNmD = true → xs = (xs.map strD).map .str
  | [], _ => rfl
  | x :: r, h => by
    rw [List.all_cons, Bool.and_eq_true] at h
    rw [List.map_cons, List.map_cons, ← nm_str h.1, ← nms_strs h.2]
def ltD : PyData → PyData → Bool
  | .str x, .str y => ltS x y
  | _, _ => false
def risB (xs : List PyData) : Bool := (List.range (xs.length - 1)).all fun i => ltD (xs.getD i .none) (xs.getD (i + 1) .none)
def namesD : PyData → Bool
  | .tuple xs => xs.all isNmD && risB xs
  | _ => false
def numB (d : PyData) (n : Nat) : Bool := match d with
  | .int i => decide (0 ≤ i) && decide (i < (n : Int))
  | _ => false
def parD : PyData → PyData
  | .tuple [p, _] => p
  | _ => .none
def nmsD : PyData → PyData
  | .tuple [_, ns] => ns
  | _ => .none
def isPair : PyData → Bool
  | .tuple [_, _] => true
  | _ => false
def noN : PyData → Bool
  | .none => true
  | _ => false
def intN : PyData → Nat
  | .int i => i.toNat
  | _ => 0
/-- a world at i, those ahead being worlds -/
def worldD (ws : List PyData) (i : Nat) : Bool :=
  isPair (ws.getD i .none) && (namesD (nmsD (ws.getD i .none)) && (if i = 0 then noN (parD (ws.getD i .none))
    else numB (parD (ws.getD i .none)) i && (strsOf (nmsD (ws.getD (intN (parD (ws.getD i .none))) .none))).all fun z => decide (z ∈ strsOf (nmsD (ws.getD i .none)))))
def treeD : PyData → Bool
  | .tuple ws => !ws.isEmpty && (List.range ws.length).all (worldD ws)
  | _ => false
theorem first_bad (p : Nat → Bool) : ∀ n : Nat, (List.range n).all p = true ∨ ∃ m, m < n ∧ p m = false ∧ ∀ i, i < m → p i = true
  | 0 => .inl rfl
  | n + 1 => by
    rcases first_bad p n with h | ⟨m, h1, h2, h3⟩
    · cases q : p n with
      | true =>
        left
        rw [List.range_succ, List.all_append, h]
        show (true && (p n && true)) = true
        rw [q] <;> rfl
      | false => exact .inr ⟨n, Nat.lt_succ_self n, q, fun i hi => List.all_eq_true.mp h i (List.mem_range.mpr hi)⟩
    · exact .inr ⟨m, Nat.lt_succ_of_lt h1, h2, h3⟩
theorem all_false {p : Nat → Bool} {n m : Nat} (h : m < n) (k : p m = false) : (List.range n).all p = false := by
  cases q : (List.range n).all p with
  | false => rfl
  | true =>
    have := List.all_eq_true.mp q m (List.mem_range.mpr h)
    rw [k] at this
    cases this
theorem pair_of {d : PyData} (h : isPair d = true) : d = .tuple [parD d, nmsD d] := by
  unfold isPair at h
  split at h
  · rfl
  · cases h
theorem num_of {d : PyData} {n : Nat} (h : numB d n = true) : d = .int (intN d) ∧ intN d < n := by
  cases d with
  | int i =>
    have h : (decide (0 ≤ i) && decide (i < (n : Int))) = true := h
    rw [Bool.and_eq_true, decide_eq_true_eq, decide_eq_true_eq] at h
    exact ⟨by show PyData.int i = .int ((i.toNat : Nat) : Int); rw [Int.toNat_of_nonneg h.1], by show i.toNat < n; omega⟩
  | _ => cases h
theorem world_pair {ws : List PyData} {i : Nat} (h : worldD ws i = true) : ws.getD i .none = .tuple [parD (ws.getD i .none), nmsD (ws.getD i .none)] ∧ namesD (nmsD (ws.getD i .none)) = true := by
  unfold worldD at h
  rw [Bool.and_eq_true, Bool.and_eq_true] at h
  exact ⟨pair_of h.1, h.2.1⟩
theorem names_of {d : PyData} (h : namesD d = true) : d = .tuple ((strsOf d).map .str) := by
  cases d with
  | tuple xs =>
    have h : (xs.all isNmD && risB xs) = true := h
    rw [Bool.and_eq_true] at h
    exact congrArg _ (nms_strs h.1)
  | _ => cases h
end TR
/-! TR2: the trees that the laws make, in plain Lean. -/
namespace TR
open PySem PySem.Spec PyProof.Rows L2 DL LM RM PK
/-! ### the four names stand apart -/
theorem let_inj : ∀ a b : Nat, a < 26 → b < 26 → letters.cps.toList.getD a 0 = letters.cps.toList.getD b 0 → a = b := by
  have h : ∀ a : Nat, a < 26 → letters.cps.toList.getD a 0 = a + 97 := by decide +kernel
  intro a b ha hb e
  rw [h a ha, h b hb] at e
  omega
theorem letAt_inj {a b : Int} (ha : 0 ≤ a ∧ a < 26) (hb : 0 ≤ b ∧ b < 26) (e : letAt a = letAt b) : a = b := by
  have := let_inj a.toNat b.toNat (by omega) (by omega) e
  omega
def longN (seed k : Int) : Bool := decide (k = 2) && (decide (seed / 13312 % 2 = 1) && decide (sizeN seed < 8))
def sgnK (seed k : Int) : Int := (sgnIx seed (spotN seed).toNat + k * (1 + seed / 1664 % 8)) % 26
theorem name_long {seed k : Int} (h : longN seed k = true) : nameBy seed k = word0 seed ++ signN seed k := by
  unfold longN at h
  simp only [Bool.and_eq_true, decide_eq_true_eq] at h
  unfold nameBy
  rw [if_pos h]
theorem name_short {seed k : Int} (h : longN seed k = false) : nameBy seed k = cutS (word0 seed) none (some (spotN seed)) ++ signN seed k ++ cutS (word0 seed) (some (spotN seed + 1)) none := by
  unfold nameBy
  rw [if_neg]
  intro q
  unfold longN at h
  rw [decide_eq_true q.1, decide_eq_true q.2.1, decide_eq_true q.2.2] at h
  cases h
theorem short_list {seed k : Int} (h : longN seed k = false) : (nameBy seed k).cps.toList = (word0 seed).cps.toList.take (spotN seed).toNat ++ [letAt (sgnK seed k)] ++ (word0 seed).cps.toList.drop ((spotN seed).toNat + 1) := by
  have hp := spotN_lo seed
  have e1 : spotN seed = ((spotN seed).toNat : Int) := by omega
  have e2 : spotN seed + 1 = (((spotN seed).toNat + 1 : Nat) : Int) := by omega
  have c1 : DL.cutD (word0 seed).cps.toList none (some (spotN seed)) = (word0 seed).cps.toList.take (spotN seed).toNat := by
    rw [e1]
    have := cut_nat (word0 seed).cps.toList 0 (spotN seed).toNat
    rw [List.drop_zero, Nat.sub_zero] at this
    rw [Int.toNat_natCast, ← this]
    unfold DL.cutD
    rw [HT.sIx_none]
    have : HT.sIx (word0 seed).cps.toList.length 0 (some ((0 : Nat) : Int)) = 0 := by rw [HT.sIx_nat] <;> exact Nat.min_eq_left (Nat.zero_le _)
    rw [this]
  rw [name_short h, str_app, str_app, cutS_cut, cutS_cut, c1, e2, cut_all] <;> rfl
theorem short_at {seed k : Int} (h : longN seed k = false) : (nameBy seed k).cps.toList[(spotN seed).toNat]? = some (letAt (sgnK seed k)) := by
  have hp := spotN_lo seed
  have hl := word0_len seed
  rw [str_len] at hl
  have ht : ((word0 seed).cps.toList.take (spotN seed).toNat).length = (spotN seed).toNat := by rw [List.length_take]; omega
  rw [short_list h, List.append_assoc, List.getElem?_append_right (by omega), ht, Nat.sub_self] <;> rfl
theorem short_len {seed k : Int} (h : longN seed k = false) : (nameBy seed k).length = (sizeN seed).toNat := by
  have hp := spotN_lo seed
  have hl := word0_len seed
  rw [str_len] at hl
  rw [str_len, short_list h, List.length_append, List.length_append, List.length_take, List.length_drop, hl]
  show min _ _ + 1 + _ = _
  omega
theorem long_len {seed k : Int} (h : longN seed k = true) : (nameBy seed k).length = (sizeN seed).toNat + 1 := by
  rw [name_long h, app_len, word0_len] <;> rfl
theorem long_two {seed k : Int} (h : longN seed k = true) : k = 2 := by
  unfold longN at h
  rw [Bool.and_eq_true, decide_eq_true_eq] at h
  exact h.1
theorem names_apart {seed : Int} {i j : Nat} (hi : i < 4) (hj : j < 4) (e : nameBy seed (i : Int) = nameBy seed (j : Int)) : i = j := by
  cases li : longN seed (i : Int) with
  | true =>
    cases lj : longN seed (j : Int) with
    | true =>
      have := long_two li
      have := long_two lj
      omega
    | false =>
      have h1 := long_len li
      rw [e, short_len lj] at h1
      omega
  | false =>
    cases lj : longN seed (j : Int) with
    | true =>
      have h1 := short_len li
      rw [e, long_len lj] at h1
      omega
    | false =>
      have h1 := short_at li
      rw [e, short_at lj] at h1
      have h2 := letAt_inj (a := sgnK seed (j : Int)) (b := sgnK seed (i : Int)) ⟨Int.emod_nonneg _ (by decide), Int.emod_lt_of_pos _ (by decide)⟩ ⟨Int.emod_nonneg _ (by decide), Int.emod_lt_of_pos _ (by decide)⟩ (Option.some.inj h1)
      unfold sgnK at h2
      have hs : 1 ≤ 1 + seed / 1664 % 8 ∧ 1 + seed / 1664 % 8 ≤ 8 := by omega
      generalize 1 + seed / 1664 % 8 = st at h2 hs
      generalize sgnIx seed (spotN seed).toNat = ix at h2
      match i, j, hi, hj with
      | 0, 0, _, _ => rfl
      | 0, 1, _, _ => omega
      | 0, 2, _, _ => omega
      | 0, 3, _, _ => omega
      | 1, 0, _, _ => omega
      | 1, 1, _, _ => rfl
      | 1, 2, _, _ => omega
      | 1, 3, _, _ => omega
      | 2, 0, _, _ => omega
      | 2, 1, _, _ => omega
      | 2, 2, _, _ => rfl
      | 2, 3, _, _ => omega
      | 3, 0, _, _ => omega
      | 3, 1, _, _ => omega
      | 3, 2, _, _ => omega
      | 3, 3, _, _ => rfl
end TR
/-! TR3: right trees; the trees by numbers. -/
namespace TR
open PySem PySem.Spec PyProof.Rows L2 DL LM RM PK
abbrev Wo := Option Nat × List Str
def w0 : Wo := (none, [])
def parE : Option Nat → PyData
  | none => .none
  | some j => .int (j : Int)
def encW (v : Wo) : PyData := .tuple [parE v.1, .tuple (v.2.map .str)]
def encT (T : List Wo) : PyData := .tuple (T.map encW)
structure RightT (T : List Wo) : Prop where
  pos : 0 < T.length
  nm : ∀ v ∈ T, (∀ z ∈ v.2, isNm z = true) ∧ v.2.Nodup ∧ risesS v.2
  root : (T.getD 0 w0).1 = none
  par : ∀ i, 0 < i → i < T.length → ∃ p, p < i ∧ (T.getD i w0).1 = some p ∧ ∀ z ∈ (T.getD p w0).2, z ∈ (T.getD i w0).2
theorem getD_enc {T : List Wo} {i : Nat} (h : i < T.length) : (T.map encW).getD i .none = encW (T.getD i w0) := by
  rw [List.getD_eq_getElem?_getD, List.getD_eq_getElem?_getD, List.getElem?_map, List.getElem?_eq_getElem h] <;> rfl
theorem mem_getT {T : List Wo} {i : Nat} (h : i < T.length) : T.getD i w0 ∈ T := by
  rw [List.getD_eq_getElem?_getD, List.getElem?_eq_getElem h]
  exact List.getElem_mem h
theorem strs_enc (ns : List Str) : (ns.map PyData.str).map strD = ns := by
  rw [List.map_map]
  exact (List.map_congr_left fun _ _ => rfl).trans (List.map_id ns)
theorem strict_of {l : List Str} (h : risesS l) (n : l.Nodup) : ∀ i, i + 1 < l.length → ltS (l.getD i "") (l.getD (i + 1) "") = true := by
  intro i hi
  have h1 : l.getD i "" = l[i] := by rw [List.getD_eq_getElem?_getD, List.getElem?_eq_getElem (by omega)] <;> rfl
  have h2 : l.getD (i + 1) "" = l[i + 1] := by rw [List.getD_eq_getElem?_getD, List.getElem?_eq_getElem hi] <;> rfl
  rw [h1, h2]
  have h3 := List.pairwise_iff_getElem.mp h i (i + 1) (by omega) hi (Nat.lt_succ_self _)
  rcases ltS_tot l[i] l[i + 1] with q | q | q
  · exact q
  · have := (List.getElem_inj n).mp q
    omega
  · rw [h3] at q
    cases q
theorem names_enc {ns : List Str} (h : (∀ z ∈ ns, isNm z = true) ∧ ns.Nodup ∧ risesS ns) : namesD (.tuple (ns.map .str)) = true := by
  show ((ns.map PyData.str).all isNmD && risB (ns.map .str)) = true
  rw [Bool.and_eq_true]
  refine ⟨List.all_eq_true.mpr fun d hd => ?_, List.all_eq_true.mpr fun i hi => ?_⟩
  · obtain ⟨z, hz, rfl⟩ := List.mem_map.mp hd
    exact h.1 z hz
  · have hi := List.mem_range.mp hi
    rw [List.length_map] at hi
    have g : ∀ j, j < ns.length → (ns.map PyData.str).getD j .none = .str (ns.getD j "") := fun j hj => by
      rw [List.getD_eq_getElem?_getD, List.getD_eq_getElem?_getD, List.getElem?_map, List.getElem?_eq_getElem hj] <;> rfl
    rw [g i (by omega), g (i + 1) (by omega)]
    exact strict_of h.2.2 h.2.1 i (by omega)
theorem right_tree {T : List Wo} (h : RightT T) : treeD (encT T) = true := by
  show (!(T.map encW).isEmpty && (List.range (T.map encW).length).all (worldD (T.map encW))) = true
  rw [Bool.and_eq_true]
  refine ⟨?_, List.all_eq_true.mpr fun i hi => ?_⟩
  · cases T with
    | nil => exact absurd h.pos (Nat.lt_irrefl _)
    | cons _ _ => rfl
  · have hi := List.mem_range.mp hi
    rw [List.length_map] at hi
    unfold worldD
    rw [getD_enc hi]
    show (true && (namesD (.tuple ((T.getD i w0).2.map .str)) && (if i = 0 then noN (parE (T.getD i w0).1) else numB (parE (T.getD i w0).1) i && (strsOf (nmsD ((T.map encW).getD (intN (parE (T.getD i w0).1)) .none))).all fun z => decide (z ∈ strsOf (.tuple ((T.getD i w0).2.map .str)))))) = true
    rw [names_enc (h.nm _ (mem_getT hi)), Bool.true_and, Bool.true_and]
    by_cases h0 : i = 0
    · rw [if_pos h0]
      subst h0
      rw [h.root] <;> rfl
    · rw [if_neg h0]
      obtain ⟨p, hp, e, hs⟩ := h.par i (by omega) hi
      rw [e]
      show ((decide ((0 : Int) ≤ (p : Int)) && decide ((p : Int) < (i : Int))) && (strsOf (nmsD ((T.map encW).getD ((p : Int)).toNat .none))).all fun z => decide (z ∈ strsOf (.tuple ((T.getD i w0).2.map .str)))) = true
      rw [Int.toNat_natCast, getD_enc (by omega), decide_eq_true (show (0 : Int) ≤ (p : Int) by omega), decide_eq_true (show (p : Int) < (i : Int) by omega), Bool.true_and, Bool.true_and]
      refine List.all_eq_true.mpr fun z hz => decide_eq_true ?_
      show z ∈ ((T.getD i w0).2.map PyData.str).map strD
      rw [strs_enc]
      have hz : z ∈ ((T.getD p w0).2.map PyData.str).map strD := hz
      rw [strs_enc] at hz
      exact hs z hz
/-! ### the tree by numbers -/
def tNames (seed : Int) : List Str := (List.range 4).map fun (j : Nat) => nameBy seed (j : Int)
def tBase (cells : List Int) (seed : Int) : List Str := match cells with
  | c :: _ => if c % 5 = 1 then [minS (tNames seed)] else []
  | [] => []
def tDiv : List Int := [192, 384, 768, 1536]
def tOn (c : Int) (j : Nat) : Bool := decide (c / tDiv.getD j 1 % 2 = 1)
def tNew (seed c : Int) : List Str := ((List.range 4).filter (tOn c)).map fun (j : Nat) => nameBy seed (j : Int)
def tPar (T : List Wo) (c : Int) : Nat := if c / 64 % 3 = 0 then T.length - 1 else (c % (T.length : Int)).toNat
def tAll (T : List Wo) (seed c : Int) : List Str := (T.getD (tPar T c) w0).2 ++ (tNew seed c).filter fun z => !decide (z ∈ (T.getD (tPar T c) w0).2)
def tStep (seed : Int) (T : List Wo) (c : Int) : List Wo := T ++ [(some (tPar T c), sortS (tAll T seed c))]
def treeBy (cells : List Int) (seed : Int) (many : Nat) : List Wo := (cells.take many).foldl (tStep seed) [(none, tBase cells seed)]
structure GoodT (seed : Int) (T : List Wo) : Prop where
  r : RightT T
  n : ∀ v ∈ T, ∀ z ∈ v.2, z ∈ tNames seed
theorem tPar_lt {T : List Wo} (h : 0 < T.length) (c : Int) : tPar T c < T.length := by
  unfold tPar
  split
  · omega
  · have h1 := Int.emod_nonneg c (show (T.length : Int) ≠ 0 by omega)
    have h2 := Int.emod_lt_of_pos c (show 0 < (T.length : Int) by omega)
    omega
theorem nodup_on {α β : Type} {f : α → β} : ∀ {l : List α}, (∀ x ∈ l, ∀ y ∈ l, f x = f y → x = y) → l.Nodup → (l.map f).Nodup
  | [], _, _ => List.nodup_nil
  | a :: r, H, d => by
    obtain ⟨h1, h2⟩ := List.nodup_cons.mp d
    rw [List.map_cons]
    refine List.nodup_cons.mpr ⟨fun hm => ?_, nodup_on (fun x hx y hy => H x (List.mem_cons_of_mem _ hx) y (List.mem_cons_of_mem _ hy)) h2⟩
    obtain ⟨b, hb, e⟩ := List.mem_map.mp hm
    have := H b (List.mem_cons_of_mem _ hb) a List.mem_cons_self e
    rw [this] at hb
    exact h1 hb
theorem tNames_nodup (seed : Int) : (tNames seed).Nodup := by
  unfold tNames
  exact nodup_on (fun x hx y hy e => names_apart (List.mem_range.mp hx) (List.mem_range.mp hy) e) List.nodup_range
theorem tNames_len (seed : Int) : (tNames seed).length = 4 := by
  unfold tNames
  rw [List.length_map, List.length_range]
theorem tNames_ok {seed : Int} {z : Str} (h : z ∈ tNames seed) : NmOk z := by
  unfold tNames at h
  obtain ⟨j, _, rfl⟩ := List.mem_map.mp h
  exact nameBy_ok _ _
theorem tNew_mem {seed c : Int} {z : Str} (h : z ∈ tNew seed c) : z ∈ tNames seed := by
  unfold tNew at h
  obtain ⟨j, hj, rfl⟩ := List.mem_map.mp h
  exact List.mem_map.mpr ⟨j, (List.mem_filter.mp hj).1, rfl⟩
theorem tNew_nodup (seed c : Int) : (tNew seed c).Nodup := by
  unfold tNew
  exact nodup_on (fun x hx y hy e => names_apart (List.mem_range.mp (List.mem_filter.mp hx).1) (List.mem_range.mp (List.mem_filter.mp hy).1) e) (List.nodup_range.sublist List.filter_sublist)
theorem nodup_len {α : Type} [BEq α] [LawfulBEq α] : ∀ {l k : List α}, l.Nodup → (∀ x ∈ l, x ∈ k) → l.length ≤ k.length
  | [], _, _, _ => Nat.zero_le _
  | a :: r, k, d, h => by
    obtain ⟨h1, h2⟩ := List.nodup_cons.mp d
    have ha := h a List.mem_cons_self
    have := nodup_len (k := k.erase a) h2 fun x hx => (List.mem_erase_of_ne (fun e => h1 (by rw [← e]; exact hx))).mpr (h x (List.mem_cons_of_mem _ hx))
    have hk := List.length_erase_of_mem ha
    have hp : 0 < k.length := List.length_pos_of_mem ha
    show r.length + 1 ≤ k.length
    omega
theorem tAll_nodup {T : List Wo} {seed c : Int} (h : GoodT seed T) : (tAll T seed c).Nodup := by
  unfold tAll
  refine List.nodup_append.mpr ⟨(h.r.nm _ (mem_getT (tPar_lt h.r.pos c))).2.1, (tNew_nodup seed c).sublist List.filter_sublist, fun x hx y hy e => ?_⟩
  have := (List.mem_filter.mp hy).2
  rw [← e, decide_eq_true hx] at this
  cases this
theorem tAll_names {T : List Wo} {seed c : Int} (h : GoodT seed T) : ∀ z ∈ tAll T seed c, z ∈ tNames seed := fun z hz => by
  unfold tAll at hz
  rcases List.mem_append.mp hz with hz | hz
  · exact h.n _ (mem_getT (tPar_lt h.r.pos c)) z hz
  · exact tNew_mem (List.mem_filter.mp hz).1
theorem tAll_len {T : List Wo} {seed c : Int} (h : GoodT seed T) : (tAll T seed c).length ≤ 4 := by
  rw [← tNames_len seed]
  exact nodup_len (tAll_nodup h) (tAll_names h)
theorem getD_snocL {T : List Wo} {v : Wo} {i : Nat} (h : i < T.length) : (T ++ [v]).getD i w0 = T.getD i w0 := by
  rw [List.getD_eq_getElem?_getD, List.getD_eq_getElem?_getD, List.getElem?_append_left h]
theorem getD_snocR {T : List Wo} {v : Wo} : (T ++ [v]).getD T.length w0 = v := by
  rw [List.getD_eq_getElem?_getD, List.getElem?_append_right (Nat.le_refl _), Nat.sub_self] <;> rfl
theorem nmOk_isNm {z : Str} (h : NmOk z) : isNm z = true := isNm_ok.mpr h
/-- one world more -/
theorem RightT.snoc {T : List Wo} (h : RightT T) {p : Nat} {ns : List Str} (hp : p < T.length) (h1 : (∀ z ∈ ns, isNm z = true) ∧ ns.Nodup ∧ risesS ns) (h2 : ∀ z ∈ (T.getD p w0).2, z ∈ ns) : RightT (T ++ [(some p, ns)]) where
  pos := by rw [List.length_append]; exact Nat.succ_pos _
  nm := fun v hv => by
    rcases List.mem_append.mp hv with hv | hv
    · exact h.nm v hv
    · rw [List.mem_singleton.mp hv]
      exact h1
  root := by rw [getD_snocL h.pos]; exact h.root
  par := fun i h0 hi => by
    rw [List.length_append, List.length_singleton] at hi
    by_cases q : i < T.length
    · obtain ⟨j, hj, e, hs⟩ := h.par i h0 q
      rw [getD_snocL q]
      exact ⟨j, hj, e, by rw [getD_snocL (by omega)]; exact hs⟩
    · have e : i = T.length := by omega
      subst e
      rw [getD_snocR]
      exact ⟨p, hp, rfl, by rw [getD_snocL hp]; exact h2⟩
theorem good_step {T : List Wo} {seed : Int} (h : GoodT seed T) (c : Int) : GoodT seed (tStep seed T c) := by
  unfold tStep
  refine ⟨h.r.snoc (tPar_lt h.r.pos c) ⟨fun z hz => nmOk_isNm (tNames_ok (tAll_names h z (sortS_mem.mp hz))), (sortS_perm _).nodup_iff.mpr (tAll_nodup h), sortS_rises _⟩ fun z hz => sortS_mem.mpr (List.mem_append_left _ hz), fun v hv z hz => ?_⟩
  rcases List.mem_append.mp hv with hv | hv
  · exact h.n v hv z hz
  · rw [List.mem_singleton.mp hv] at hz
    exact tAll_names h z (sortS_mem.mp hz)
theorem tBase_mem {cells : List Int} {seed : Int} {z : Str} (h : z ∈ tBase cells seed) : z ∈ tNames seed := by
  unfold tBase at h
  split at h
  · split at h
    · rw [List.mem_singleton.mp h]
      exact minS_mem (by rw [tNames_len]; decide)
    · cases h
  · cases h
theorem tBase_one (cells : List Int) (seed : Int) : tBase cells seed = [] ∨ ∃ z, tBase cells seed = [z] := by
  unfold tBase
  split
  · split
    · exact .inr ⟨_, rfl⟩
    · exact .inl rfl
  · exact .inl rfl
theorem good_base (cells : List Int) (seed : Int) : GoodT seed [(none, tBase cells seed)] := by
  refine ⟨⟨Nat.one_pos, fun v hv => ?_, rfl, fun i h0 hi => ?_⟩, fun v hv z hz => ?_⟩
  · rw [List.mem_singleton.mp hv]
    refine ⟨fun z hz => nmOk_isNm (tNames_ok (tBase_mem hz)), ?_, ?_⟩
    · show (tBase cells seed).Nodup
      rcases tBase_one cells seed with e | ⟨z, e⟩
      · rw [e]; exact List.nodup_nil
      · rw [e]; exact List.nodup_cons.mpr ⟨by simp, List.nodup_nil⟩
    · show risesS (tBase cells seed)
      rcases tBase_one cells seed with e | ⟨z, e⟩
      · rw [e]; exact .nil
      · rw [e]; exact List.pairwise_singleton _ _
  · have hi : i < 1 := hi
    omega
  · rw [List.mem_singleton.mp hv] at hz
    exact tBase_mem hz
theorem good_fold {seed : Int} : ∀ (cs : List Int) {T : List Wo}, GoodT seed T → GoodT seed (cs.foldl (tStep seed) T)
  | [], _, h => h
  | c :: cs, _, h => good_fold cs (good_step h c)
theorem good_treeBy (cells : List Int) (seed : Int) (many : Nat) : GoodT seed (treeBy cells seed many) := good_fold _ (good_base cells seed)
theorem fold_lenT {seed : Int} : ∀ (cs : List Int) (T : List Wo), (cs.foldl (tStep seed) T).length = T.length + cs.length
  | [], _ => rfl
  | c :: cs, T => by
    show (cs.foldl (tStep seed) (tStep seed T c)).length = _
    rw [fold_lenT cs]
    unfold tStep
    rw [List.length_append, List.length_singleton, List.length_cons]
    omega
theorem treeBy_len (cells : List Int) (seed : Int) (many : Nat) : (treeBy cells seed many).length = 1 + min many cells.length := by
  unfold treeBy
  rw [fold_lenT, List.length_take] <;> rfl
end TR
/-! TA: which worlds are at or above one, in plain Lean. -/
namespace TA
open PySem PySem.Spec PyProof.Rows L2 DL LM RM PK TR
structure ParT (T : List Wo) : Prop where
  pos : 0 < T.length
  par : ∀ i, 0 < i → i < T.length → ∃ p, p < i ∧ (T.getD i w0).1 = some p
theorem ParT.of {T : List Wo} (h : RightT T) : ParT T := ⟨h.pos, fun i h0 hi => let ⟨p, h1, h2, _⟩ := h.par i h0 hi; ⟨p, h1, h2⟩⟩
/-- going down from i one comes to n -/
def rch (T : List Wo) (n : Nat) (i : Nat) : Bool :=
  if i ≤ n then decide (i = n) else match (T.getD i w0).1 with
  | some p => if h : p < i then rch T n p else false
  | none => false
termination_by i
theorem rch_le {T : List Wo} {n i : Nat} (h : i ≤ n) : rch T n i = decide (i = n) := by
  rw [rch, if_pos h]
theorem rch_gt {T : List Wo} {n i p : Nat} (h : n < i) (e : (T.getD i w0).1 = some p) (hp : p < i) : rch T n i = rch T n p := by
  rw [rch, if_neg (by omega), e]
  show (if h : p < i then rch T n p else false) = _
  rw [dif_pos hp]
def upL (T : List Wo) (n m : Nat) : List Nat := (List.range m).filter (rch T n)
theorem path {T : List Wo} (h : ParT T) (n : Nat) : ∀ i, i < T.length → ∃ (m : Nat) (S : Nat → Nat), S 0 = i ∧ (∀ j, j < m → n < S j ∧ S j < T.length ∧ (T.getD (S j) w0).1 = some (S (j + 1))) ∧ S m ≤ n ∧ rch T n i = decide (S m = n) := by
  intro i
  induction i using Nat.strongRecOn with
  | ind i ih =>
    intro hi
    by_cases hn : i ≤ n
    · exact ⟨0, fun _ => i, rfl, fun j hj => absurd hj (Nat.not_lt_zero _), hn, rch_le hn⟩
    · obtain ⟨p, hp, e⟩ := h.par i (by omega) hi
      obtain ⟨m, S, h0, h1, h2, h3⟩ := ih p hp (by omega)
      refine ⟨m + 1, fun j => match j with | 0 => i | j + 1 => S j, rfl, fun j hj => ?_, h2, by rw [rch_gt (by omega) e hp]; exact h3⟩
      cases j with
      | zero => exact ⟨by show n < i; omega, hi, by show (T.getD i w0).1 = some (S 0); rw [h0]; exact e⟩
      | succ j => exact h1 j (by omega)
theorem upL_succ (T : List Wo) (n m : Nat) : upL T n (m + 1) = upL T n m ++ (if rch T n m = true then [m] else []) := by
  unfold upL
  rw [List.range_succ, List.filter_append, List.filter_cons]
  rfl
/-- what above knows behind its turns -/
def mk (T : List Wo) (n j : Nat) : List PyData := (List.range T.length).map fun i => .bool (decide (i < j) && rch T n i)
theorem mk_at {T : List Wo} {n j i : Nat} (h : i < T.length) : (mk T n j)[i]? = some (.bool (decide (i < j) && rch T n i)) := by
  unfold mk
  rw [List.getElem?_map, List.getElem?_range h] <;> rfl
theorem mk_len (T : List Wo) (n j : Nat) : (mk T n j).length = T.length := by
  unfold mk
  rw [List.length_map, List.length_range]
theorem mk_zero {T : List Wo} {n : Nat} (h : n < T.length) : (List.replicate T.length (PyData.bool false)).set n (.bool true) = mk T n (n + 1) := by
  refine List.ext_getElem? fun i => ?_
  by_cases hi : i < T.length
  · rw [mk_at hi]
    by_cases e : n = i
    · subst e
      rw [List.getElem?_set_self (by rw [List.length_replicate]; exact hi), rch_le (Nat.le_refl _), decide_eq_true (Nat.lt_succ_self _), decide_eq_true rfl] <;> rfl
    · rw [List.getElem?_set_ne e, List.getElem?_replicate, if_pos hi]
      by_cases hl : i < n + 1
      · rw [rch_le (by omega), decide_eq_false (show ¬ i = n by omega), Bool.and_false]
      · rw [decide_eq_false hl, Bool.false_and]
  · rw [List.getElem?_eq_none (by rw [List.length_set, List.length_replicate]; omega), List.getElem?_eq_none (by rw [mk_len]; omega)]
theorem mk_step {T : List Wo} {n j p : Nat} (h : j < T.length) (hn : n < j) (hp : p < j) (e : (T.getD j w0).1 = some p) : (mk T n j).set j (.bool (decide (p < j) && rch T n p)) = mk T n (j + 1) := by
  refine List.ext_getElem? fun i => ?_
  by_cases hi : i < T.length
  · rw [mk_at hi]
    by_cases q : j = i
    · subst q
      rw [List.getElem?_set_self (by rw [mk_len]; exact hi), decide_eq_true hp, decide_eq_true (Nat.lt_succ_self _), rch_gt hn e hp]
    · rw [List.getElem?_set_ne q, mk_at hi]
      by_cases hl : i < j
      · rw [decide_eq_true hl, decide_eq_true (show i < j + 1 by omega)]
      · rw [decide_eq_false hl, decide_eq_false (show ¬ i < j + 1 by omega)]
  · rw [List.getElem?_eq_none (by rw [List.length_set, mk_len]; omega), List.getElem?_eq_none (by rw [mk_len]; omega)]
/-- a chain, or all above the root -/
def chW (flat : Bool) (k : Nat) : Wo := (some (if flat = true then 0 else k), ["a"])
def chainT (flat : Bool) (m : Nat) : List Wo := (none, []) :: (List.range m).map (chW flat)
theorem chain_len (flat : Bool) (m : Nat) : (chainT flat m).length = m + 1 := by
  unfold chainT
  rw [List.length_cons, List.length_map, List.length_range]
theorem chain_succ (flat : Bool) (m : Nat) : chainT flat (m + 1) = chainT flat m ++ [chW flat m] := by
  unfold chainT
  rw [List.range_succ, List.map_append]
  rfl
theorem chain_par (flat : Bool) (m : Nat) : ParT (chainT flat m) := by
  refine ⟨by rw [chain_len]; omega, fun i h0 hi => ?_⟩
  rw [chain_len] at hi
  obtain ⟨j, rfl⟩ : ∃ j, i = j + 1 := ⟨i - 1, by omega⟩
  have e : (chainT flat m).getD (j + 1) w0 = chW flat j := by
    unfold chainT
    rw [List.getD_cons_succ, List.getD_eq_getElem?_getD, List.getElem?_map, List.getElem?_range (by omega)] <;> rfl
  refine ⟨if flat = true then 0 else j, ?_, by rw [e] <;> rfl⟩
  split <;> omega
/-- whole numbers in a list may be compared -/
theorem lay_ints : ∀ l : List Int, PyData.canLayAll0 (l.map .int) = true ∧ PyData.depthAll (l.map .int) ≤ 1
  | [] => ⟨rfl, Nat.zero_le _⟩
  | i :: r => by
    obtain ⟨h1, h2⟩ := lay_ints r
    refine ⟨?_, ?_⟩
    · simp only [List.map_cons, PyData.canLayAll0, PyData.canLay0, h1, Bool.and_true]
    · simp only [List.map_cons, PyData.depthAll, PyData.depth]
      omega
theorem ints_shaped (l : List Int) : SeqAt.shaped (.list (l.map .int)) = true := by
  obtain ⟨h1, h2⟩ := lay_ints l
  unfold SeqAt.shaped
  have e1 : PyData.canLay0 (.list (l.map .int)) = true := by
    simp only [PyData.canLay0, h1]
  have e2 : PyData.depth (.list (l.map .int)) ≤ 64 := by
    simp only [PyData.depth]
    omega
  rw [e1, decide_eq_true e2] <;> rfl
theorem ints_eqv : ∀ l : List Int, PyData.eqv (.list (l.map .int)) (.list (l.map .int)) = true := by
  have h : ∀ l : List Int, PyData.eqvAll (l.map .int) (l.map .int) = true := by
    intro l
    induction l with
    | nil => rfl
    | cons i r ih =>
      show (PyData.eqv (.int i) (.int i) && PyData.eqvAll (r.map .int) (r.map .int)) = true
      rw [ih, show PyData.eqv (.int i) (.int i) = true from beq_self_eq_true i] <;> rfl
  intro l
  exact h l
def natsD (l : List Nat) : List PyData := l.map fun (i : Nat) => PyData.int (i : Int)
theorem natsD_ints (l : List Nat) : natsD l = (l.map fun (i : Nat) => (i : Int)).map PyData.int := by
  unfold natsD
  rw [List.map_map] <;> rfl
theorem nats_shaped (l : List Nat) : SeqAt.shaped (.list (natsD l)) = true := by
  rw [natsD_ints]
  exact ints_shaped _
theorem nats_eqv (l : List Nat) : PyData.eqv (.list (natsD l)) (.list (natsD l)) = true := by
  rw [natsD_ints]
  exact ints_eqv _
theorem nats_len (l : List Nat) : (natsD l).length = l.length := List.length_map _
end TA
/-! TH: what holds at the worlds of a tree, in plain Lean. -/
namespace TH
open PySem PySem.Spec PyProof.Rows L2 DL LM RM PK TR TA
/-- the first world at or below m that one comes to, going down from j -/
def dn (T : List Wo) (m : Nat) (j : Nat) : Nat :=
  if j ≤ m then j else match (T.getD j w0).1 with
  | some p => if h : p < j then dn T m p else j
  | none => j
termination_by j
theorem dn_le {T : List Wo} {m j : Nat} (h : j ≤ m) : dn T m j = j := by rw [dn, if_pos h]
theorem dn_gt {T : List Wo} {m j p : Nat} (h : m < j) (e : (T.getD j w0).1 = some p) (hp : p < j) : dn T m j = dn T m p := by
  rw [dn, if_neg (by omega), e]
  show (if h : p < j then dn T m p else j) = _
  rw [dif_pos hp]
theorem dn_bd {T : List Wo} (h : ParT T) (m : Nat) : ∀ j, j < T.length → dn T m j ≤ m ∧ dn T m j ≤ j := by
  intro j
  induction j using Nat.strongRecOn with
  | ind j ih =>
    intro hj
    by_cases hm : j ≤ m
    · rw [dn_le hm]
      exact ⟨hm, Nat.le_refl _⟩
    · obtain ⟨p, hp, e⟩ := h.par j (by omega) hj
      rw [dn_gt (by omega) e hp]
      have := ih p hp (by omega)
      omega
theorem dn_dn {T : List Wo} (h : ParT T) {m n : Nat} (hmn : m ≤ n) : ∀ j, j < T.length → dn T m (dn T n j) = dn T m j := by
  intro j
  induction j using Nat.strongRecOn with
  | ind j ih =>
    intro hj
    by_cases hm : j ≤ n
    · rw [dn_le hm]
    · obtain ⟨p, hp, e⟩ := h.par j (by omega) hj
      rw [dn_gt (by omega) e hp, dn_gt (by omega : m < j) e hp]
      exact ih p hp (by omega)
/-- at all worlds at or above k the second holds where the first does -/
def thB (T : List Wo) (one other : Nat → Bool) (k : Nat) : Bool := (List.range T.length).all fun j => !decide (dn T k j = k) || (!one j || other j)
def hB (T : List Wo) : S → Nat → Bool
  | .nm v => fun k => decide (v ∈ (T.getD k w0).2)
  | .fls => fun _ => false
  | .bin .and a b => fun k => hB T a k && hB T b k
  | .bin .or a b => fun k => hB T a k || hB T b k
  | .bin .thn a b => thB T (hB T a) (hB T b)
theorem thB_iff {T : List Wo} {one other : Nat → Bool} {k : Nat} : thB T one other k = true ↔ ∀ j, j < T.length → dn T k j = k → one j = true → other j = true := by
  unfold thB
  rw [List.all_eq_true]
  constructor
  · intro h j hj e h1
    have := h j (List.mem_range.mpr hj)
    rw [e, decide_eq_true rfl, h1] at this
    simpa using this
  · intro h j hj
    have hj := List.mem_range.mp hj
    by_cases e : dn T k j = k
    · cases h1 : one j with
      | false => simp
      | true => rw [h j hj e h1]; simp
    · rw [decide_eq_false e] <;> rfl
/-! ### the program's way: from the last world on -/
def stT (T : List Wo) (base : Nat → Bool) (m : Nat) (k : Nat) : Bool := (List.range T.length).all fun j => !decide (dn T (max m k) j = k) || base j
theorem stT_iff {T : List Wo} {base : Nat → Bool} {m k : Nat} : stT T base m k = true ↔ ∀ j, j < T.length → dn T (max m k) j = k → base j = true := by
  unfold stT
  rw [List.all_eq_true]
  constructor
  · intro h j hj e
    have := h j (List.mem_range.mpr hj)
    rw [e, decide_eq_true rfl] at this
    simpa using this
  · intro h j hj
    have hj := List.mem_range.mp hj
    by_cases e : dn T (max m k) j = k
    · rw [h j hj e, Bool.or_true]
    · rw [decide_eq_false e] <;> rfl
theorem bool_ext {a b : Bool} (h : a = true ↔ b = true) : a = b := by cases a <;> cases b <;> simp_all
theorem stT_top {T : List Wo} {base : Nat → Bool} {k : Nat} (hk : k < T.length) : stT T base (T.length - 1) k = base k := by
  apply bool_ext
  rw [stT_iff, Nat.max_eq_left (by omega)]
  constructor
  · intro h
    exact h k hk (dn_le (by omega))
  · intro h j hj e
    rw [dn_le (by omega)] at e
    rw [e]
    exact h
theorem stT_zero {T : List Wo} {base : Nat → Bool} {k : Nat} : stT T base 0 k = (List.range T.length).all fun j => !decide (dn T k j = k) || base j := by
  unfold stT
  rw [Nat.zero_max]
def mkT (T : List Wo) (base : Nat → Bool) (m : Nat) : List PyData := (List.range T.length).map fun k => .bool (stT T base m k)
theorem mkT_len (T : List Wo) (base : Nat → Bool) (m : Nat) : (mkT T base m).length = T.length := by unfold mkT; rw [List.length_map, List.length_range]
theorem mkT_at {T : List Wo} {base : Nat → Bool} {m k : Nat} (h : k < T.length) : (mkT T base m)[k]? = some (.bool (stT T base m k)) := by
  unfold mkT
  rw [List.getElem?_map, List.getElem?_range h] <;> rfl
theorem stT_step {T : List Wo} (h : ParT T) {base : Nat → Bool} {m p : Nat} (hm : 0 < m) (hl : m < T.length) (e : (T.getD m w0).1 = some p) (hp : p < m) :
    (mkT T base m).set p (.bool (stT T base m p && stT T base m m)) = mkT T base (m - 1) := by
  have low : ∀ j, j < T.length → dn T (m - 1) j = if dn T m j = m then p else dn T m j := fun j hj => by
    have hb := dn_bd h m j hj
    rw [← dn_dn h (show m - 1 ≤ m by omega) j hj]
    split
    · rename_i q
      rw [q, dn_gt (by omega) e hp, dn_le (by omega)]
    · rename_i q
      exact dn_le (by omega)
  refine List.ext_getElem? fun k => ?_
  by_cases hk : k < T.length
  · rw [mkT_at hk]
    by_cases q : p = k
    · subst q
      rw [List.getElem?_set_self (by rw [mkT_len]; exact hk)]
      congr 2
      apply bool_ext
      rw [Bool.and_eq_true, stT_iff, stT_iff, stT_iff, Nat.max_eq_left (by omega), Nat.max_self, Nat.max_eq_left (by omega)]
      constructor
      · intro ⟨h1, h2⟩ j hj q
        rw [low j hj] at q
        split at q
        · rename_i q2
          exact h2 j hj q2
        · exact h1 j hj q
      · intro h1
        refine ⟨fun j hj q => h1 j hj ?_, fun j hj q => h1 j hj ?_⟩
        · rw [low j hj, if_neg (by omega)]
          exact q
        · rw [low j hj, if_pos q]
    · rw [List.getElem?_set_ne q, mkT_at hk]
      congr 2
      by_cases hkm : m ≤ k
      · unfold stT
        rw [Nat.max_eq_right hkm, Nat.max_eq_right (by omega)]
      · apply bool_ext
        rw [stT_iff, stT_iff, Nat.max_eq_left (by omega), Nat.max_eq_left (by omega)]
        constructor
        · intro h1 j hj q2
          rw [low j hj] at q2
          split at q2
          · exact absurd q2 q
          · exact h1 j hj q2
        · intro h1 j hj q2
          refine h1 j hj ?_
          rw [low j hj, if_neg (by omega)]
          exact q2
  · rw [List.getElem?_eq_none (by rw [List.length_set, mkT_len]; omega), List.getElem?_eq_none (by rw [mkT_len]; omega)]
/-! ### the law's way: going down from each world at which it fails -/
def ftB (T : List Wo) (base : Nat → Bool) (n k : Nat) : Bool := (List.range n).all fun j => !decide (dn T k j = k) || base j
theorem ftB_succ {T : List Wo} {base : Nat → Bool} {n k : Nat} : ftB T base (n + 1) k = (ftB T base n k && (!decide (dn T k n = k) || base n)) := by
  unfold ftB
  rw [List.range_succ, List.all_append, List.all_cons, List.all_nil, Bool.and_true]
def mkF (T : List Wo) (base : Nat → Bool) (n : Nat) : List PyData := (List.range T.length).map fun k => .bool (ftB T base n k)
theorem mkF_len (T : List Wo) (base : Nat → Bool) (n : Nat) : (mkF T base n).length = T.length := by unfold mkF; rw [List.length_map, List.length_range]
/-- the worlds on the way down from k are set -/
def setS (l : List PyData) (S : Nat → Nat) : Nat → List PyData
  | 0 => l
  | t + 1 => (setS l S t).set (S t) (.bool false)
theorem setS_len (l : List PyData) (S : Nat → Nat) : ∀ t, (setS l S t).length = l.length
  | 0 => rfl
  | t + 1 => by
    show ((setS l S t).set _ _).length = _
    rw [List.length_set, setS_len l S t]
theorem setS_at (l : List PyData) (S : Nat → Nat) (i : Nat) : ∀ t, (∀ r, r < t → S r ≠ i) → (setS l S t)[i]? = l[i]?
  | 0, _ => rfl
  | t + 1, h => by
    show ((setS l S t).set _ _)[i]? = _
    rw [List.getElem?_set_ne (h t (Nat.lt_succ_self t))]
    exact setS_at l S i t fun r hr => h r (by omega)
theorem setS_in (l : List PyData) (S : Nat → Nat) (i : Nat) (hi : i < l.length) : ∀ t, (∃ r, r < t ∧ S r = i) → (setS l S t)[i]? = some (.bool false)
  | 0, ⟨r, h, _⟩ => absurd h (Nat.not_lt_zero _)
  | t + 1, ⟨r, h, e⟩ => by
    show ((setS l S t).set _ _)[i]? = _
    by_cases q : S t = i
    · rw [q, List.getElem?_set_self (by rw [setS_len]; exact hi)]
    · rw [List.getElem?_set_ne q]
      refine setS_in l S i hi t ⟨r, ?_, e⟩
      have : r ≠ t := fun z => q (by rw [← z]; exact e)
      omega
theorem path_dn {T : List Wo} {m k : Nat} {S : Nat → Nat} (h0 : S 0 = k) (h1 : ∀ j, j < m → 0 < S j ∧ S j < T.length ∧ (T.getD (S j) w0).1 = some (S (j + 1))) (h2 : S m = 0) (hd : ∀ j, j < m → S (j + 1) < S j) (i : Nat) :
    dn T i k = i ↔ ∃ t, t < m + 1 ∧ S t = i := by
  have go : ∀ t, t ≤ m → (∀ r, r < t → i < S r) → dn T i k = dn T i (S t) := by
    intro t
    induction t with
    | zero => intro _ _; rw [h0]
    | succ t ih =>
      intro ht hr
      rw [ih (by omega) fun r hr2 => hr r (by omega)]
      exact dn_gt (hr t (Nat.lt_succ_self t)) (h1 t (by omega)).2.2 (hd t (by omega))
  -- the first one at or below i
  have first : ∀ t, t ≤ m → S t ≤ i → ∃ u, u ≤ t ∧ S u ≤ i ∧ ∀ r, r < u → i < S r := by
    intro t
    induction t using Nat.strongRecOn with
    | ind t ih =>
      intro ht hs
      by_cases q : ∃ r, r < t ∧ S r ≤ i
      · obtain ⟨r, hr, hs2⟩ := q
        obtain ⟨u, h1, h2, h3⟩ := ih r hr (by omega) hs2
        exact ⟨u, by omega, h2, h3⟩
      · refine ⟨t, Nat.le_refl _, hs, fun r hr => ?_⟩
        by_cases z : S r ≤ i
        · exact absurd ⟨r, hr, z⟩ q
        · omega
  have mono : ∀ t u, t < u → u ≤ m → S u < S t := by
    intro t u
    induction u with
    | zero => intro h; exact absurd h (Nat.not_lt_zero _)
    | succ u ih =>
      intro h1 h2
      have := hd u (by omega)
      by_cases q : t = u
      · rw [q]; exact this
      · have := ih (by omega) (by omega)
        omega
  constructor
  · intro h
    obtain ⟨u, hu, hs, hf⟩ := first m (Nat.le_refl _) (by omega)
    refine ⟨u, by omega, ?_⟩
    have := go u hu hf
    rw [dn_le hs, h] at this
    exact this.symm
  · rintro ⟨t, ht, e⟩
    obtain ⟨u, hu, hs, hf⟩ := first t (by omega) (by omega)
    have eu : u = t := by
      by_cases q : u < t
      · have := mono u t q (by omega)
        omega
      · omega
    subst eu
    rw [go u (by omega) hf, e, dn_le (Nat.le_refl _)]
theorem mkF_fail {T : List Wo} {base : Nat → Bool} {m k : Nat} {S : Nat → Nat} (hb : base k = false) (hp : ∀ i, dn T i k = i ↔ ∃ t, t < m + 1 ∧ S t = i) : setS (mkF T base k) S (m + 1) = mkF T base (k + 1) := by
  refine List.ext_getElem? fun i => ?_
  have at_ : ∀ n i, i < T.length → (mkF T base n)[i]? = some (.bool (ftB T base n i)) := fun n i h => by
    unfold mkF
    rw [List.getElem?_map, List.getElem?_range h] <;> rfl
  by_cases hi : i < T.length
  · rw [at_ (k + 1) i hi, ftB_succ, hb, Bool.or_false]
    by_cases q : dn T i k = i
    · rw [setS_in _ _ _ (by rw [mkF_len]; exact hi) _ ((hp i).mp q), decide_eq_true q, Bool.not_true, Bool.and_false]
    · rw [setS_at _ _ _ _ fun r hr e => q ((hp i).mpr ⟨r, hr, e⟩), at_ k i hi, decide_eq_false q, Bool.not_false, Bool.and_true]
  · rw [List.getElem?_eq_none (by rw [setS_len, mkF_len]; omega), List.getElem?_eq_none (by rw [mkF_len]; omega)]
theorem mkF_keep {T : List Wo} {base : Nat → Bool} {k : Nat} (hb : base k = true) : mkF T base k = mkF T base (k + 1) := by
  unfold mkF
  refine List.map_congr_left fun i _ => ?_
  rw [ftB_succ, hb, Bool.or_true, Bool.and_true]
theorem mkF_end {T : List Wo} {one other : Nat → Bool} : mkF T (fun j => !one j || other j) T.length = (List.range T.length).map fun k => .bool (thB T one other k) := rfl
/-! ### what holds, holds above -/
theorem hB_up {T : List Wo} (h : RightT T) {k p : Nat} (hk : k < T.length) (hp : p < k) (e : (T.getD k w0).1 = some p) (hs : ∀ z ∈ (T.getD p w0).2, z ∈ (T.getD k w0).2) : ∀ s : S, hB T s p = true → hB T s k = true
  | .nm v, q => decide_eq_true (hs v (of_decide_eq_true q))
  | .fls, q => q
  | .bin .and a b, q => by
    have q : (hB T a p && hB T b p) = true := q
    show (hB T a k && hB T b k) = true
    rw [Bool.and_eq_true] at q ⊢
    exact ⟨hB_up h hk hp e hs a q.1, hB_up h hk hp e hs b q.2⟩
  | .bin .or a b, q => by
    have q : (hB T a p || hB T b p) = true := q
    show (hB T a k || hB T b k) = true
    rw [Bool.or_eq_true] at q ⊢
    exact q.imp (hB_up h hk hp e hs a) (hB_up h hk hp e hs b)
  | .bin .thn a b, q => by
    have q : thB T (hB T a) (hB T b) p = true := q
    show thB T (hB T a) (hB T b) k = true
    rw [thB_iff] at q ⊢
    intro j hj ej h1
    refine q j hj ?_ h1
    rw [← dn_dn (.of h) (show p ≤ k by omega) j hj, ej, dn_gt hp e hp, dn_le (Nat.le_refl _)]
end TH
/-! PF: the parts in their order: closed, each once, the whole one last. -/
namespace PF
open PySem PySem.Spec PyProof.Rows L2 DL LM RM PT SHLF
structure Clo (xs : List S) : Prop where
  h : ∀ (i : Nat) (o : Op) (a b : S), xs[i]? = some (.bin o a b) → (∃ j, j < i ∧ xs[j]? = some a) ∧ ∃ j, j < i ∧ xs[j]? = some b
theorem lp_pre : ∀ (s : S) (f : List S), ∃ more, lp s f = f ++ more
  | .nm v, f => by
    unfold lp
    split
    · exact ⟨[], (List.append_nil _).symm⟩
    · exact ⟨_, rfl⟩
  | .fls, f => by
    unfold lp
    split
    · exact ⟨[], (List.append_nil _).symm⟩
    · exact ⟨_, rfl⟩
  | .bin o a b, f => by
    unfold lp
    split
    · exact ⟨[], (List.append_nil _).symm⟩
    · obtain ⟨m1, e1⟩ := lp_pre a f
      obtain ⟨m2, e2⟩ := lp_pre b (lp a f)
      exact ⟨m1 ++ m2 ++ [.bin o a b], by rw [e2, e1, List.append_assoc, List.append_assoc, List.append_assoc]⟩
theorem lp_has (s : S) (f : List S) : s ∈ lp s f := by
  by_cases h : s ∈ f
  · rw [lp_in h]
    exact h
  · rw [lp_out h]
    exact List.mem_append_right _ (List.mem_singleton.mpr rfl)
theorem lp_sub {s x : S} {f : List S} (h : x ∈ f) : x ∈ lp s f := by
  obtain ⟨m, e⟩ := lp_pre s f
  rw [e]
  exact List.mem_append_left _ h
theorem get_pre {α : Type} {xs ys : List α} {i : Nat} {x : α} (h : xs[i]? = some x) : (xs ++ ys)[i]? = some x := by
  rw [List.getElem?_append_left (List.getElem?_eq_some_iff.mp h).1]
  exact h
theorem clo_snoc {f : List S} {s : S} (h : Clo f) (hh : ∀ o a b, s = .bin o a b → a ∈ f ∧ b ∈ f) : Clo (f ++ [s]) := ⟨fun i o a b e => by
  by_cases hi : i < f.length
  · rw [List.getElem?_append_left hi] at e
    obtain ⟨⟨j, h1, h2⟩, ⟨k, h3, h4⟩⟩ := h.h i o a b e
    exact ⟨⟨j, h1, get_pre h2⟩, ⟨k, h3, get_pre h4⟩⟩
  · have hi2 : i = f.length := by
      have := (List.getElem?_eq_some_iff.mp e).1
      rw [List.length_append, List.length_singleton] at this
      omega
    subst hi2
    rw [List.getElem?_append_right (Nat.le_refl _), Nat.sub_self] at e
    obtain ⟨ha, hb⟩ := hh o a b (Option.some.inj e)
    obtain ⟨j, hj, ej⟩ := List.getElem_of_mem ha
    obtain ⟨k, hk, ek⟩ := List.getElem_of_mem hb
    exact ⟨⟨j, hj, get_pre (by rw [List.getElem?_eq_getElem hj, ej])⟩, ⟨k, hk, get_pre (by rw [List.getElem?_eq_getElem hk, ek])⟩⟩⟩
theorem lp_clo : ∀ (s : S) (f : List S), Clo f → Clo (lp s f)
  | .nm v, f, h => by
    unfold lp
    split
    · exact h
    · exact clo_snoc h fun _ _ _ e => nomatch e
  | .fls, f, h => by
    unfold lp
    split
    · exact h
    · exact clo_snoc h fun _ _ _ e => nomatch e
  | .bin o a b, f, h => by
    unfold lp
    split
    · exact h
    · refine clo_snoc (lp_clo b _ (lp_clo a f h)) fun o' a' b' e => ?_
      cases e
      exact ⟨lp_sub (lp_has a f), lp_has b _⟩
theorem nodup_snoc {α : Type} {f : List α} {s : α} (h : f.Nodup) (hs : s ∉ f) : (f ++ [s]).Nodup :=
  List.nodup_append.mpr ⟨h, List.nodup_cons.mpr ⟨by simp, List.nodup_nil⟩, fun a ha b hb e => hs (by rw [← List.mem_singleton.mp hb, ← e]; exact ha)⟩
theorem lp_nodup : ∀ (s : S) (f : List S), f.Nodup → (lp s f).Nodup
  | .nm v, f, h => by
    unfold lp
    split
    · exact h
    · rename_i q
      exact nodup_snoc h q
  | .fls, f, h => by
    unfold lp
    split
    · exact h
    · rename_i q
      exact nodup_snoc h q
  | .bin o a b, f, h => by
    unfold lp
    split
    · exact h
    · rename_i q
      exact nodup_snoc (lp_nodup b _ (lp_nodup a f h)) (foldP_low (s := .bin o a b) q)
theorem lp_last (s : S) : ∃ f, lp s [] = f ++ [s] := ⟨foldP (halvesS s) [], lp_out (fun h => nomatch h)⟩
theorem num_of {xs : List S} (h : xs.Nodup) {j : Nat} {a : S} (e : xs[j]? = some a) : numS xs a = some j := by
  unfold numS
  obtain ⟨hj, ej⟩ := List.getElem?_eq_some_iff.mp e
  rw [List.find?_eq_some_iff_getElem]
  refine ⟨decide_eq_true (by rw [List.getD_eq_getElem?_getD, e] <;> rfl), j, by rw [List.length_range]; exact hj, List.getElem_range _, fun m hm => ?_⟩
  rw [List.getElem_range]
  have hml : m < xs.length := Nat.lt_trans hm hj
  rw [Bool.not_eq_true', decide_eq_false_iff_not, List.getD_eq_getElem?_getD, List.getElem?_eq_getElem hml]
  intro q
  have q : xs[m] = a := q
  rw [← ej] at q
  have := (List.getElem_inj h).mp q
  omega
theorem map_getD {α β : Type} (l : List α) (d : α) (F : α → β) : (List.range l.length).map (fun k => F (l.getD k d)) = l.map F := by
  refine List.ext_getElem? fun i => ?_
  rw [List.getElem?_map, List.getElem?_map]
  by_cases h : i < l.length
  · rw [List.getElem?_range h, List.getElem?_eq_getElem h]
    show some (F (l.getD i d)) = some (F l[i])
    rw [List.getD_eq_getElem?_getD, List.getElem?_eq_getElem h] <;> rfl
  · rw [List.getElem?_eq_none (by rw [List.length_range]; omega), List.getElem?_eq_none (by omega)] <;> rfl
end PF
/-! DL33: defs that give a new list or raise; a comprehension's list as one's own; try over blocks. -/
namespace DL
open PySem PySem.Spec PyProof.Rows L2
/-- called with data ds it hands back a new list (R), or raises c (Rx) -/
def spXO (K : PySem.W.Frag) (tb : List Addr) (n : Nat) (R : List PyData → List PyData → Prop) (Rx : List PyData → Value → Prop) : Sp := fun vs H Q E => ∃ (Hd : Hp) (ds : List PyData), vs.length = n ∧ DH Hd H ∧ (∀ P ∈ tb, GxR.TabG H P) ∧ DpAll K Hd vs ds ∧
  ((∃ xs, R ds xs ∧ ∀ (fo : Addr) (ws : List V) Hd' H', Gr Hd H Hd' H' → (∀ P ∈ tb, GxR.TabG H' P) → H fo = none → Hd' fo = none → H' fo = some (.lst ws) → DpAll K Hd' ws xs → Q (.ref fo) H') ∨ ∃ c, Rx ds c ∧ ∀ Hd' H', Gr Hd H Hd' H' → (∀ P ∈ tb, GxR.TabG H' P) → E c none H')
section
variable {P : Program} {w : World} {K : PySem.W.Frag} {mg : Str → Option Value} {base : Heap} {x qual : Str} {params : Arguments} {body : List Stmt} {scope : Scope} {f : Addr} {fd : FuncData} {tb : List Addr}
theorem fnxo_ok {N ps : List Str} {k : Nat} {R : List PyData → List PyData → Prop} {Rx : List PyData → Value → Prop} (F : FunD K x qual params body scope [] [] f fd) (S : FnScope N ps scope) (hlen : ps.length ≤ N.length)
    (hb : ∀ (ds : List PyData) (xs : List PyData), R ds xs → ∀ (A : Around) (outer : List PySem.Env) (s : Shared) (H : Hp) (E : XK), Room k (A.deeper (envOfC qual scope s.heap.objs.size f fd.code)) →
      PBd (cxOf (L2.CX P w) P w K mg base N qual scope f fd.code A outer s H E) tb (fun c d _ H => E c d H) body (sd N ds) (.ro xs))
    (hx : ∀ (ds : List PyData) (c : Value), Rx ds c → ∀ (A : Around) (outer : List PySem.Env) (s : Shared) (H : Hp) (E : XK), Room k (A.deeper (envOfC qual scope s.heap.objs.size f fd.code)) →
      PBd (cxOf (L2.CX P w) P w K mg base N qual scope f fd.code A outer s H E) tb (fun c d _ H => E c d H) body (sd N ds) (.ex c)) : FnOk P w K mg base (L2.CX P w) (k + 1) f fd ps (spXO K tb ps.length R Rx) := by
  refine fok F S (fun vs H Q E h => ?_) fun A outer s H vs Q E hr h => ?_
  · obtain ⟨_, _, h, _⟩ := h
    exact h
  · obtain ⟨Hd, ds, hl, D, ht, hv, hh⟩ := h
    have St : State K tb Hd H Hd H (L2.start N vs) (sd N ds) := ⟨start_env (by rw [hl]; exact hlen) D ht hv, Gr.refl D, fun i xs a e1 _ => (sd_noOwn e1).elim⟩
    rcases hh with ⟨d, hR, q⟩ | ⟨c, hR, q⟩
    · obtain ⟨t, p, r⟩ := hb ds d hR A outer s H E hr
      exact ⟨t, p, r Hd H Hd H _ _ St fun fo ws Hd' H' g ht' h1 h2 h3 h4 => q fo ws Hd' H' g ht' h1 h2 h3 h4⟩
    · obtain ⟨t, p, r⟩ := hx ds c hR A outer s H E hr
      exact ⟨t, p, r Hd H Hd H _ _ St fun _ Hd' H' g ht' => q Hd' H' g ht'⟩
structure FnXO (P : Program) (w : World) (K : PySem.W.Frag) (mg : Str → Option Value) (base : Heap) (tb : List Addr) (x : Str) (ps : List Str) (k : Nat) (R : List PyData → List PyData → Prop) (Rx : List PyData → Value → Prop) : Prop where
  ex : ∃ (f : Addr) (fd : FuncData), FnOk P w K mg base (L2.CX P w) k f fd ps (spXO K tb ps.length R Rx) ∧ mg x = some (.ref f) ∧ PySem.W.keepIn K (.ref f) = true ∧ Binds K fd ps []
/-- a def that hands back a new list and raises nothing -/
theorem fno_ok {N ps : List Str} {k : Nat} {R : List PyData → List PyData → Prop} (F : FunD K x qual params body scope [] [] f fd) (S : FnScope N ps scope) (hlen : ps.length ≤ N.length)
    (hb : ∀ (ds : List PyData) (xs : List PyData), R ds xs → ∀ (A : Around) (outer : List PySem.Env) (s : Shared) (H : Hp) (E : XK), Room k (A.deeper (envOfC qual scope s.heap.objs.size f fd.code)) →
      PBd (cxOf CX0 P w K mg base N qual scope f fd.code A outer s H E).nox tb W0 body (sd N ds) (.ro xs)) : FnOk P w K mg base CX0 (k + 1) f fd ps (spO K tb ps.length R) := by
  refine fok F S (fun vs H Q E h => ?_) fun A outer s H vs Q E hr h => ?_
  · obtain ⟨_, _, _, h, _⟩ := h
    exact h
  · obtain ⟨Hd, ds, xs, hl, D, ht, hv, hR, q⟩ := h
    obtain ⟨t, p, r⟩ := hb ds xs hR A outer s H E hr
    exact ⟨t, p.nox, r Hd H Hd H _ _ ⟨start_env (by rw [hl]; exact hlen) D ht hv, Gr.refl D, fun i xs a e1 _ => (sd_noOwn e1).elim⟩ fun fo ws Hd' H' g ht' h1 h2 h3 h4 => q fo ws Hd' H' g ht' h1 h2 h3 h4⟩
end
section
variable {X : Cx} {tb : List Addr} {W : WX'} {ds es fs' : List Sl} {d e f : PyData} {a b c iter elt : Expr} {pos pos' p p1 p2 px : Pos} {x y n : Str} {args : List Expr} {fs : List PyData} {ps : List Str} {k : Nat} {rest body suite : List Stmt} {st b₀ : Stmt} {o : Out} {R : List PyData → List PyData → Prop} {Rx : List PyData → Value → Prop} {cv : Value}
/-- such a call, its list nobody else's -/
theorem od_callX {xs : List PyData} (G : FnXO X.prog X.w X.K X.mg X.base tb x ps k R Rx) (hr : Room k X.A) (ha : PAd X tb (a :: args) ds fs) (hR : R fs xs) (hl : fs.length = ps.length := by rfl) (hg : Gl X x := by rfl) (hdb : (x == ("__debug__" : Str)) = false := by decide)
    (he : starEach (a :: args) X.env = (false, eval a X.env) :: starEach args X.env := by rfl) (hpl : (backTo pos (starEach args X.env)).any (·.1) = false := by rfl) : POd' X tb (.Call (.Name x p) (a :: args) [] pos) ds xs := by
  obtain ⟨fa, fd, F, hm, hk, hb⟩ := G.ex
  obtain ⟨t, p1, q1⟩ := ha
  refine ⟨_, pe_call F hr hg hm hk hb .nil (passL (X := X)) p1 hdb he hpl, fun Hd H σ E Q z => q1 Hd H σ E _ fun vs Hd1 H1 g dv => ?_⟩
  have E1 := E.up g
  exact ⟨Hd1, fs, by rw [List.append_nil, dpa_len dv]; exact hl, g.h, E1.tb, by rw [List.append_nil]; exact dv, .inl ⟨xs, hR, fun fo ws Hd2 H2 g2 _ h1 h2 h3 h4 => z fo ws Hd2 H2 (g.trans g2) (g.e.n fo h1) h2 h3 h4⟩⟩
theorem od_call {xs : List PyData} (G : FnO X.prog X.w X.K X.mg X.base tb x ps k R) (hr : Room k X.A) (ha : PAd X tb (a :: args) ds fs) (hR : R fs xs) (hl : fs.length = ps.length := by rfl) (hg : Gl X x := by rfl) (hdb : (x == ("__debug__" : Str)) = false := by decide)
    (he : starEach (a :: args) X.env = (false, eval a X.env) :: starEach args X.env := by rfl) (hpl : (backTo pos (starEach args X.env)).any (·.1) = false := by rfl) : POd' X tb (.Call (.Name x p) (a :: args) [] pos) ds xs := by
  obtain ⟨fa, fd, F, hm, hk, hb⟩ := G.ex
  obtain ⟨t, p1, q1⟩ := ha
  refine ⟨_, pe_call F hr hg hm hk hb .nil (pass0 (X := X)) p1 hdb he hpl, fun Hd H σ E Q z => q1 Hd H σ E _ fun vs Hd1 H1 g dv => ?_⟩
  have E1 := E.up g
  exact ⟨Hd1, fs, xs, by rw [List.append_nil, dpa_len dv]; exact hl, g.h, E1.tb, by rw [List.append_nil]; exact dv, hR, fun fo ws Hd2 H2 g2 _ h1 h2 h3 h4 => z fo ws Hd2 H2 (g.trans g2) (g.e.n fo h1) h2 h3 h4⟩
theorem xd_callXO (G : FnXO X.prog X.w X.K X.mg X.base tb x ps k R Rx) (hr : Room k X.A) (tk : Takes X W) (ha : PAd X tb (a :: args) ds fs) (hR : Rx fs cv) (hl : fs.length = ps.length := by rfl) (hg : Gl X x := by rfl) (hdb : (x == ("__debug__" : Str)) = false := by decide)
    (he : starEach (a :: args) X.env = (false, eval a X.env) :: starEach args X.env := by rfl) (hpl : (backTo pos (starEach args X.env)).any (·.1) = false := by rfl) : PXd X tb W (.Call (.Name x p) (a :: args) [] pos) ds cv := by
  obtain ⟨fa, fd, F, hm, hk, hb⟩ := G.ex
  obtain ⟨t, p1, q1⟩ := ha
  refine ⟨_, pe_callS F hr hg hm hk hb (fun σ => passAt tk σ) p1 hdb he hpl, fun Hd H σ E Q z => q1 Hd H σ E _ fun vs Hd1 H1 g dv => ?_⟩
  have E2 := E.up g
  exact ⟨Hd1, fs, by rw [dpa_len dv]; exact hl, g.h, E2.tb, dv, .inr ⟨cv, hR, fun Hd2 H2 g2 t2 => z Hd2 H2 (g.trans g2) t2⟩⟩
theorem sd_exprX (h : PXd X tb W a ds cv) (hs : swapsWith a none pos.line X.env = pure false := by rfl) : PSd X tb W (.Expr a pos) ds (.ex cv) := let ⟨_, p1, q1⟩ := h; ⟨_, ps_expr p1 hs, fun Hd0 H0 Hd H σ D S p => q1 Hd H σ S.env _ fun Hd' H' g t => p σ Hd' H' (S.gr.trans g) t⟩

/-! ### what raises, the slots known -/
def XRun (K : PySem.W.Frag) (tb : List Addr) (W : WX') (t : TS) (ds es : List Sl) (c : Value) : Prop := ∀ (Hd0 H0 Hd H : Hp) (σ : L2.St) (D : Ends), State K tb Hd0 H0 Hd H σ ds → (∀ σ' Hd' H', State K tb Hd0 H0 Hd' H' σ' es → Sub Hd Hd' → W c none σ' H') → t D σ H
def PXs (X : Cx) (tb : List Addr) (W : WX') (s : Stmt) (ds es : List Sl) (c : Value) : Prop := ∃ t, PS X s t ∧ XRun X.K tb W t ds es c
def PXb (X : Cx) (tb : List Addr) (W : WX') (s : List Stmt) (ds es : List Sl) (c : Value) : Prop := ∃ t, PSs X s t ∧ XRun X.K tb W t ds es c
theorem xs_expr (h : PXd X tb W a ds cv) (hs : swapsWith a none pos.line X.env = pure false := by rfl) : PXs X tb W (.Expr a pos) ds ds cv := let ⟨_, p1, q1⟩ := h; ⟨_, ps_expr p1 hs, fun Hd0 H0 Hd H σ D S p => q1 Hd H σ S.env _ fun Hd' H' g t => p σ Hd' H' (S.up g) g.d⟩
theorem xs_ret (h : PXd X tb W a ds cv) : PXs X tb W (.Return (some a) pos) ds ds cv := let ⟨_, p1, q1⟩ := h; ⟨_, ps_ret p1, fun Hd0 H0 Hd H σ D S p => q1 Hd H σ S.env _ fun Hd' H' g t => p σ Hd' H' (S.up g) g.d⟩
theorem xs_asg {tg : Expr} (h : PXd X tb W a ds cv) (hs : swapsWithSole [tg] a pos.line X.env = pure false := by rfl) (hw : swappedStores [tg] a X.env = pure none := by rfl) (h1 : (assignEach [tg] X.env).map (·.2) = [assign tg X.env] := by rfl) : PXs X tb W (.Assign [tg] a pos) ds ds cv :=
  let ⟨_, p1, q1⟩ := h; ⟨_, ps_asg p1 pg_nev hs hw h1, fun Hd0 H0 Hd H σ D S p => q1 Hd H σ S.env _ fun Hd' H' g t => p σ Hd' H' (S.up g) g.d⟩
theorem xs_if {kk : Bool} {r1 r2 : List Stmt} (hc : PTd X tb c ds kk) (h1 : kk = true → PXb X tb W r1 ds es cv) (h2 : kk = false → PXb X tb W r2 ds es cv) : PXs X tb W (.If c r1 r2 pos) ds es cv := by
  obtain ⟨t, p, q⟩ := hc
  cases kk with
  | true =>
    obtain ⟨u, p1, q1⟩ := h1 rfl
    exact ⟨_, ps_if p p1 pss_never, fun Hd0 H0 Hd H σ D S z => q Hd H σ S.env _ fun Hd' H' g => q1 Hd0 H0 Hd' H' σ D (S.up g) fun σ2 Hd2 H2 S2 s2 => z σ2 Hd2 H2 S2 (g.d.trans s2)⟩
  | false =>
    obtain ⟨u, p1, q1⟩ := h2 rfl
    exact ⟨_, ps_if p pss_never p1, fun Hd0 H0 Hd H σ D S z => q Hd H σ S.env _ fun Hd' H' g => q1 Hd0 H0 Hd' H' σ D (S.up g) fun σ2 Hd2 H2 S2 s2 => z σ2 Hd2 H2 S2 (g.d.trans s2)⟩
theorem xb_head (h : PXs X tb W st ds es cv) : PXb X tb W (st :: rest) ds es cv := let ⟨_, p1, q1⟩ := h; ⟨_, pss_cons p1 pss_never, fun Hd0 H0 Hd H σ D S p => q1 Hd0 H0 Hd H σ _ S p⟩
theorem xb_cons (h : PSd X tb W st ds (.nx es)) (k : PXb X tb W rest es fs' cv) : PXb X tb W (st :: rest) ds fs' cv :=
  let ⟨_, p1, q1⟩ := h; let ⟨_, p2, q2⟩ := k; ⟨_, pss_cons p1 p2, fun Hd0 H0 Hd H σ D S p => q1 Hd0 H0 Hd H σ _ S fun σ' Hd' H' S' s => q2 Hd0 H0 Hd' H' σ' D S' fun σ2 Hd2 H2 S2 s2 => p σ2 Hd2 H2 S2 (s.trans s2)⟩
theorem PXb.can (h : PXb X tb W body ds es cv) : XRun X.K tb W (wpB X body) ds es cv := let ⟨t, p, q⟩ := h; fun Hd0 H0 Hd H σ D S z => ⟨t, p, q Hd0 H0 Hd H σ D S z⟩
/-! ### try over blocks -/
def tbTryB (X : Cx) (body : List Stmt) (W : WX') : TS := fun D σ H => ∀ (pn : List (Addr × Obj)) (xe : Value → Shared → Prop), Takes (X.tr pn xe) W → PassesOwn (model X.prog X.w) X.A X.env xe → wpB (X.tr pn xe) body D σ H
def tsTryB (X : Cx) (suite : List Stmt) (a : Addr) (cls : Value) (dd : Option Addr) : TS := fun D σ H => ∀ (oe : Obj) (pn : List (Addr × Obj)), Zc cls dd oe → (∃ vs, oe.data = .fields vs) → wpB (X.suite a ((a, oe) :: pn)) suite D σ H
theorem ps_tryB {i : Nat} (tk : Takes X W) (hs : X.stack = X.env :: X.outer) (hf : X.env.frame = some X.env.locals) (hN : X.N.Nodup) (hi : X.N[i]? = some n) (hln : X.env.kindOf n = some .local) (hc : Names X x cv) :
    PS X (.Try body [.ExceptHandler (some (.Name x p)) (some n) (b₀ :: suite) pos'] [] [] pos) (fun D σ H => tbTryB X body (wAs X.K cv i (tsTryB X (b₀ :: suite)) W D) D σ H) :=
  ps_try_as hs hf hN hi hln hc tk (fun W' pn xe tk' pa => ⟨fun pins s σ H D I h => pb_can.run pins s σ H D I (h pn xe tk' pa)⟩)
    fun a oe cls dd pn hz hv => ⟨fun pins s σ H D I h => pb_can.run pins s σ H D I (h oe pn hz hv)⟩
/-- the body raises, and the suite leaves -/
theorem sd_tryB_ex (i : Nat) {ce : Value} (tk : Takes X W) (hN : X.N.Nodup) (hc : Names X x cv) (h : ∀ (W' : WX') (pn : List (Addr × Obj)) (xe : Value → Shared → Prop), Takes (X.tr pn xe) W' → PXb (X.tr pn xe) tb W' body ds es ce) (hm : PySem.W.exmOne X.K ce cv = some true)
    (hr : ∀ (a : Addr) (oe : Obj) (pn : List (Addr × Obj)), Zc ce none oe → (∃ vs, oe.data = .fields vs) → PBd (X.suite a ((a, oe) :: pn)) tb W0 (b₀ :: suite) (es.set i (.val (.ref a))) (.rt d)) (hi : X.N[i]? = some n := by rfl) (hln : X.env.kindOf n = some .local := by rfl) (hs : X.stack = X.env :: X.outer := by rfl) (hf : X.env.frame = some X.env.locals := by rfl) :
    PSd X tb W (.Try body [.ExceptHandler (some (.Name x p)) (some n) (b₀ :: suite) pos'] [] [] pos) ds (.rt d) :=
  ⟨_, ps_tryB tk hs hf hN hi hln hc, fun Hd0 H0 Hd H σ D S z => fun pn xe tk' _ => (h _ pn xe tk').can Hd0 H0 Hd H σ D S fun σ1 Hd1 H1 S1 s1 => ⟨true, hm, fun _ a ha => fun oe pn2 hz hv =>
    (hr a oe pn2 hz hv).can Hd0 H0 Hd1 H1 _ _ (S1.set (i := i) (s := .val (.ref a)) rfl fun _ z => nomatch z) fun v Hd' H' g t dv => z v Hd' H' g t dv, fun z => nomatch z⟩⟩
/-- the body ends, nothing raised -/
theorem sd_tryB_ok {i : Nat} (tk : Takes X W) (hN : X.N.Nodup) (hc : Names X x cv) (hi : X.N[i]? = some n) (h : ∀ (W' : WX') (pn : List (Addr × Obj)) (xe : Value → Shared → Prop), Takes (X.tr pn xe) W' → PBd (X.tr pn xe) tb W' body ds o) (ho : ∀ c, o ≠ .ex c) (hln : X.env.kindOf n = some .local := by rfl) (hs : X.stack = X.env :: X.outer := by rfl) (hf : X.env.frame = some X.env.locals := by rfl) :
    PSd X tb W (.Try body [.ExceptHandler (some (.Name x p)) (some n) (b₀ :: suite) pos'] [] [] pos) ds o :=
  ⟨_, ps_tryB tk hs hf hN hi hln hc, fun Hd0 H0 Hd H σ D S z => fun pn xe tk' _ => (h _ pn xe tk').can Hd0 H0 Hd H σ D S (by
    cases o with
    | ex c => exact absurd rfl (ho c)
    | _ => exact z)⟩
/-- [e for x in it if ..], its list nobody else's -/
theorem od_lcX {α : Type} {scope : Scope} {ifs : List Expr} (j : Nat) (ys : List α) (enc F : α → PyData) (p : α → Bool) (hc : X.calm = true) (hN : X.N.Nodup) (hi : PId X tb (.Name x px) iter ds (ys.map enc)) (hlen : ys.length ≤ 1000000) (ok : BlkOk X.N X.env.scope scope [(x, j)])
    (hg : ∀ (s : Shared) (H : Hp) (C : Addr) (cl : List (Str × Addr)) (fp : List Addr), PG (X.blk s H scope (compEnvC scope cl C X.env) fp) (.Name x px) (gName j))
    (ht : ∀ y ∈ ys, ∀ (s : Shared) (H : Hp) (C : Addr) (cl : List (Str × Addr)) (fp : List Addr), ∃ t, PTs (X.blk s H scope (compEnvC scope cl C X.env) fp) ifs t ∧ EvT X.K tb t (ds.set j (.dat (enc y))) (p y))
    (he : ∀ y ∈ ys, p y = true → ∀ (s : Shared) (H : Hp) (C : Addr) (cl : List (Str × Addr)) (fp : List Addr), PEd (X.blk s H scope (compEnvC scope cl C X.env) fp) tb elt (ds.set j (.dat (enc y))) (F y))
    (hs : ∀ x, foldedSetIterable iter X.env x = pure x := by intro _; rfl) : POd' X tb (.ListComp elt [⟨.Name x px, iter, ifs, 0⟩] scope pos) ds ((ys.filter p).map F) := by
  obtain ⟨wi, p1, q1⟩ := hi
  refine ⟨_, pe_lc (own := [(x, j)]) (g := gName j) (tt := fun σ H Q => ∀ (s : Shared) (H' : Hp) (C : Addr) (cl : List (Str × Addr)) (fp : List Addr), ∃ t, PTs (X.blk s H' scope (compEnvC scope cl C X.env) fp) ifs t ∧ t σ H Q)
    (te := fun σ H Q => ∀ (s : Shared) (H' : Hp) (C : Addr) (cl : List (Str × Addr)) (fp : List Addr), wpE (X.blk s H' scope (compEnvC scope cl C X.env) fp) elt σ H Q) hc hN p1 ok hg
    (fun s H C cl fp => ⟨fun pins s' σ H' Q I h => let ⟨t, a1, a2⟩ := h s H C cl fp; a1.run pins s' σ H' Q I a2⟩) (fun s H C cl fp => ⟨fun pins s' σ H' Q I h => pe_can.run pins s' σ H' Q I (h s H C cl fp)⟩) hs, fun Hd H σ E Q z => ?_⟩
  refine q1 Hd H σ E _ fun J Hd1 H1 g wk D hD => ?_
  have hd0 : Hd1 D = none := none_of_dh g.h hD
  refine ⟨fun i mm H' => mm = ys.length - i ∧ i ≤ ys.length ∧ ∃ Hd' vs, Gr Hd1 H1 Hd' H' ∧ Hd' D = none ∧ H' D = some (.lst vs) ∧ DpAll X.K Hd' vs (((ys.take i).filter p).map F), ⟨ys.length, by simp, Nat.zero_le _, Hd1, [], Gr.newOut g.h hD, hd0, upd_same, .nil⟩, ?_⟩
  rintro i mm H' ⟨rfl, him, Hd', vs, g', d0, hl, hv⟩
  have E' : Env X.K tb Hd' H' σ ds := (E.up g).up g'
  have W' : Env X.K tb Hd' H' (wipe σ [j]) (ds.set j .no) := ⟨by show (List.set σ j none).length = _; rw [List.length_set, List.length_set]; exact E'.len, E'.dh, E'.tb, fun k t e => by
      show ∃ o, (List.set σ j none)[k]? = some o ∧ _
      by_cases q : j = k
      · subst q
        have hj : j < ds.length := by
          have := (List.getElem?_eq_some_iff.mp e).1
          rw [List.length_set] at this
          exact this
        rw [List.getElem?_set_self hj] at e
        cases e
        exact ⟨none, List.getElem?_set_self (by rw [E'.len]; exact hj), trivial⟩
      · rw [List.getElem?_set_ne q] at e
        obtain ⟨oo, k1, k2⟩ := E'.sl k t e
        exact ⟨oo, by rw [List.getElem?_set_ne q]; exact k1, k2⟩, fun k l xs zs a n e1 e2 e3 e4 => by
      have nj : ∀ (m : Nat) (us : List PyData), (ds.set j .no)[m]? = some (.own us) → j ≠ m := fun m us e q => by
        subst q
        have hj : j < ds.length := by
          have := (List.getElem?_eq_some_iff.mp e).1
          rw [List.length_set] at this
          exact this
        rw [List.getElem?_set_self hj] at e
        cases e
      have n1 := nj k xs e1
      have n2 := nj l zs e2
      rw [List.getElem?_set_ne n1] at e1
      rw [List.getElem?_set_ne n2] at e2
      have e3' : (List.set σ j none)[k]? = some (some (V.ref a)) := e3
      have e4' : (List.set σ j none)[l]? = some (some (V.ref a)) := e4
      rw [List.getElem?_set_ne n1] at e3'
      rw [List.getElem?_set_ne n2] at e4'
      exact E'.ap k l xs zs a n e1 e2 e3' e4'⟩
  by_cases hlt : i < ys.length
  · have hil : i < (ys.map enc).length := by rw [List.length_map]; exact hlt
    have hy : ys[i] ∈ ys := List.getElem_mem hlt
    refine .inr ⟨wk.go i Hd' H' g'.d g'.h hil, fun H2 => i + 1 ≤ ys.length ∧ ∃ Hd2 vs, Gr Hd1 H1 Hd2 H2 ∧ Hd2 D = none ∧ H2 D = some (.lst vs) ∧ DpAll X.K Hd2 vs (((ys.take (i + 1)).filter p).map F), fun H2 z2 => ⟨ys.length - (i + 1), by omega, rfl, z2⟩, fun v H2 y => ?_⟩
    obtain ⟨Hd2, dd, e1, g2, dv⟩ := wk.yl i Hd' H' v H2 g'.d g'.h hil y
    have ed : dd = enc ys[i] := by
      rw [List.getElem?_map, List.getElem?_eq_getElem hlt] at e1
      exact (Option.some.inj e1).symm
    subst ed
    have hjσ : ∀ u : V, wipe ((wipe σ [j]).set j (some u)) [j] = wipe σ [j] := fun u => by
      show List.set (List.set (List.set σ j none) j (some u)) j none = List.set σ j none
      rw [List.set_set, List.set_set]
    refine ⟨hjσ v, fun s Hx C cl fp => ?_⟩
    have E2 : Env X.K tb Hd2 H2 ((wipe σ [j]).set j (some v)) (ds.set j (.dat (enc ys[i]))) := by
      have := (W'.up g2).set (i := j) (s := .dat (enc ys[i])) dv fun _ z => nomatch z
      rwa [List.set_set] at this
    obtain ⟨t, t1, t2⟩ := ht ys[i] hy s Hx C cl fp
    refine ⟨t, t1, t2 Hd2 H2 _ E2 _ fun Hd3 H3 g3 => ?_⟩
    have tk : ys.take (i + 1) = ys.take i ++ [ys[i]] := by rw [List.take_add_one, List.getElem?_eq_getElem hlt] <;> rfl
    have g13 : Gr Hd1 H1 Hd3 H3 := (g'.trans g2).trans g3
    have d3 : Hd3 D = none := (g2.trans g3).f D d0 (by rw [hl]; exact fun z => nomatch z)
    have l3 : H3 D = some (.lst vs) := (g2.trans g3).e.k D _ hl fun _ z => nomatch z
    cases hp : p ys[i] with
    | true =>
      refine iteT fun s Hx C cl fp => (he ys[i] hy hp s Hx C cl fp).can Hd3 H3 _ (E2.up g3) _ fun w Hd4 H4 g4 dw => ?_
      have d4 : Hd4 D = none := g4.f D d3 (by rw [l3]; exact fun z => nomatch z)
      have l4 : H4 D = some (.lst vs) := g4.e.k D _ l3 fun _ z => nomatch z
      have lv : vs.length ≤ ys.length := by
        rw [dpa_len hv, List.length_map]
        exact Nat.le_trans (List.length_filter_le _ _) (by rw [List.length_take]; exact Nat.min_le_right _ _)
      refine ⟨vs, l4, Nat.lt_of_le_of_lt (Nat.le_trans lv hlen) (by decide), hlt, Hd4, vs ++ [w], ?_, d4, upd_same, ?_⟩
      · have G := g13.trans g4
        exact ⟨G.d, ⟨fun b o q => by rw [upd_ne (ne_of_none q d4)]; exact G.h.s b o q, G.h.nt⟩, ⟨fun b o q n => by rw [upd_ne (ne_of_none q hD)]; exact G.e.k b o q n, fun P t => by
          obtain ⟨ps, e1, e2⟩ := G.e.t P t
          exact ⟨ps, by rw [upd_ne (not_tab l4 ⟨ps, e1, e2⟩)]; exact e1, e2⟩, fun b q => by
          by_cases q1 : b = D
          · rw [q1]; exact hD
          · rw [upd_ne q1] at q
            exact G.e.n b q⟩, G.f⟩
      · rw [tk, List.filter_append, List.map_append, List.filter_cons, if_pos hp]
        exact dpa_app (DpAll.up hv ((g2.trans g3).trans g4).d) (.cons dw .nil)
    | false =>
      refine iteF ⟨hlt, Hd3, vs, g13, d3, l3, ?_⟩
      rw [tk, List.filter_append, List.map_append, List.filter_cons, if_neg (by rw [hp]; exact Bool.false_ne_true)]
      show DpAll X.K Hd3 vs (_ ++ [])
      rw [List.append_nil]
      exact DpAll.up hv (g2.trans g3).d
  · have e : i = ys.length := by omega
    subst e
    refine .inl ⟨wk.st _ Hd' H' g'.d g'.h (by rw [List.length_map]; exact Nat.le_refl _), ?_⟩
    rw [List.take_length] at hv
    exact z D vs Hd' H' (g.trans g') (g.e.n D hD) d0 hl hv
end
end DL
/-! DL34: defs that run to their end; numbers in messages. -/
namespace DL
open PySem PySem.Spec PyProof.Rows L2
section
variable {P : Program} {w : World} {K : PySem.W.Frag} {mg : Str → Option Value} {base : Heap} {x qual : Str} {params : Arguments} {body : List Stmt} {scope : Scope} {f : Addr} {fd : FuncData} {tb : List Addr}
theorem fnxp_ok {N ps : List Str} {k : Nat} {R : List PyData → Prop} {Rx : List PyData → Value → Prop} (F : FunD K x qual params body scope [] [] f fd) (S : FnScope N ps scope) (hlen : ps.length ≤ N.length)
    (hb : ∀ (ds : List PyData), R ds → ∀ (A : Around) (outer : List PySem.Env) (s : Shared) (H : Hp) (E : XK), Room k (A.deeper (envOfC qual scope s.heap.objs.size f fd.code)) →
      ∃ es, PBd (cxOf (L2.CX P w) P w K mg base N qual scope f fd.code A outer s H E) tb (fun c d _ H => E c d H) body (sd N ds) (.nx es))
    (hx : ∀ (ds : List PyData) (c : Value), Rx ds c → ∀ (A : Around) (outer : List PySem.Env) (s : Shared) (H : Hp) (E : XK), Room k (A.deeper (envOfC qual scope s.heap.objs.size f fd.code)) →
      PBd (cxOf (L2.CX P w) P w K mg base N qual scope f fd.code A outer s H E) tb (fun c d _ H => E c d H) body (sd N ds) (.ex c)) : FnOk P w K mg base (L2.CX P w) (k + 1) f fd ps (spX K tb ps.length (fun ds d => R ds ∧ d = .none) Rx) := by
  refine fok F S (fun vs H Q E h => ?_) fun A outer s H vs Q E hr h => ?_
  · obtain ⟨_, _, h, _⟩ := h
    exact h
  · obtain ⟨Hd, ds, hl, D, ht, hv, hh⟩ := h
    have St : State K tb Hd H Hd H (L2.start N vs) (sd N ds) := ⟨start_env (by rw [hl]; exact hlen) D ht hv, Gr.refl D, fun i xs a e1 _ => (sd_noOwn e1).elim⟩
    rcases hh with ⟨d, ⟨hR, rfl⟩, q⟩ | ⟨c, hR, q⟩
    · obtain ⟨es, t, p, r⟩ := hb ds hR A outer s H E hr
      exact ⟨t, p, r Hd H Hd H _ _ St fun σ' Hd' H' S' _ => q .non Hd' H' S'.gr S'.env.tb .non⟩
    · obtain ⟨t, p, r⟩ := hx ds c hR A outer s H E hr
      exact ⟨t, p, r Hd H Hd H _ _ St fun _ Hd' H' g ht' => q Hd' H' g ht'⟩
end
theorem PId.is {X : Cx} {tb : List Addr} {tg a : Expr} {ds : List Sl} {xs ys : List PyData} (h : PId X tb tg a ds xs) (e : xs = ys) : PId X tb tg a ds ys := e ▸ h
theorem numL {i : Int} (h : -100 < i ∧ i ≤ 10 ^ 20) : (Str.ofString (toString i)).length ≤ 30 := by
  by_cases h0 : 0 ≤ i
  · exact Nat.le_trans (toString_length_le h0 (k := 21) (by decide) (by omega)) (by decide)
  · obtain ⟨n, hn⟩ : ∃ n : Fin 100, i = -((n : Nat) : Int) := ⟨⟨(-i).toNat, by omega⟩, by show i = -(((-i).toNat : Nat) : Int); omega⟩
    have all : ∀ n : Fin 100, (Str.ofString (toString (-((n : Nat) : Int)))).length ≤ 30 := by decide +kernel
    rw [hn]
    exact all n
theorem logL {i : Int} (h : -100 < i ∧ i ≤ 10 ^ 20) : i.natAbs.log2 < 1920 := by
  by_cases h0 : i.natAbs = 0
  · rw [h0]
    decide
  · exact (Nat.log2_lt h0).mpr (Nat.lt_of_lt_of_le (show i.natAbs < 2 ^ 70 by omega) (Nat.pow_le_pow_right (by decide) (by decide)))
end DL
/-! DL35: a, b, .. = ..; is of truths; all of a list; int of a truth; a def got out of a table and called. -/
namespace DL
open PySem PySem.Spec PyProof.Rows L2
def setD (ds : List Sl) : List Nat → List PyData → List Sl
  | i :: is, d :: r => setD (ds.set i (.dat d)) is r
  | _, _ => ds
inductive PNs (X : Cx) : List Expr → List Nat → Prop where
  | nil : PNs X [] []
  | cons {x : Str} {p : Pos} {i : Nat} {es : List Expr} {is : List Nat} (h : PNs X es is) (hi : X.N[i]? = some x := by rfl) (hx : locB X.env.scope x = true := by rfl)
    (hf : X.fn x = true ∨ X.env.scope.names.lookup x = some .local := by first | exact .inl rfl | exact .inr rfl)
    (hs : (assignEach (.Name x p :: es) X.env).map (·.2) = assign (.Name x p) X.env :: (assignEach es X.env).map (·.2) := by rfl) : PNs X (.Name x p :: es) (i :: is)
section
variable {X : Cx} {tb : List Addr} {W : WX'} {ds es : List Sl} {d e f : PyData} {a b c : Expr} {pos pos' pos1 p px py : Pos} {x y : Str} {args : List Expr} {fs : List PyData} {ps : List Str} {k : Nat}
theorem pns_run {Hd0 H0 Hd H : Hp} (hN : X.N.Nodup) : ∀ {es : List Expr} {is : List Nat}, PNs X es is → ∃ t, PGs X es t ∧ ∀ (vs : List V) (xs : List PyData) (σ : L2.St) (ds : List Sl), DpAll X.K Hd vs xs → is.length = xs.length → State X.K tb Hd0 H0 Hd H σ ds → ∀ Q : L2.St → Hp → Prop, (∀ σ', State X.K tb Hd0 H0 Hd H σ' (setD ds is xs) → Q σ' H) → t vs σ H Q
  | _, _, .nil => ⟨_, pgs_nil, fun vs xs σ ds dv hl S Q q => by
    cases xs with
    | cons _ _ => cases hl
    | nil =>
      cases dv
      exact ⟨rfl, q σ S⟩⟩
  | _, _, .cons (i := i) h hi hx hf hs => by
    obtain ⟨t, p1, q1⟩ := pns_run (Hd0 := Hd0) (H0 := H0) (Hd := Hd) (H := H) hN h
    refine ⟨_, pgs_cons (pg_name hN hi (locB_ok hx) hf) p1 hs, fun vs xs σ ds dv hl S Q q => ?_⟩
    cases xs with
    | nil => cases hl
    | cons d r =>
      cases dv with
      | cons h1 h2 =>
        exact ⟨_, _, rfl, q1 _ r _ _ h2 (Nat.succ.inj hl) (S.set (i := i) (s := .dat d) h1 fun _ z => nomatch z) Q q⟩
variable {tgs : List Expr} {is : List Nat} {xs : List PyData} {kk : Nat}
theorem sd_unpackT (h : PEd X tb a ds (.tuple xs)) (hp : PNs X tgs is) (hc : X.calm = true) (hN : X.N.Nodup) (hl : is.length = xs.length := by rfl) (h1 : (assignEach tgs X.env).length = xs.length := by rfl) (h2 : (assignEach tgs X.env).findIdx? (·.1) = none := by rfl)
    (hs : swapsWithSole [.Tuple tgs kk pos1] a pos.line X.env = pure false := by rfl) (hw : swappedStores [.Tuple tgs kk pos1] a X.env = pure none := by rfl)
    (h5 : (assignEach [.Tuple tgs kk pos1] X.env).map (·.2) = [assign (.Tuple tgs kk pos1) X.env] := by rfl) :
    PSd X tb W (.Assign [.Tuple tgs kk pos1] a pos) ds (.nx (setD ds is xs)) := by
  obtain ⟨ta, p1, q1⟩ := h
  obtain ⟨t0, p0, _⟩ := pns_run (X := X) (tb := tb) (Hd0 := fun _ => none) (H0 := fun _ => none) (Hd := fun _ => none) (H := fun _ => none) hN hp
  let tt : TGs := fun vs σ H Q => ∃ t, PGs X tgs t ∧ t vs σ H Q
  have pt : PGs X tgs tt := ⟨fun pins s σ H vs us Q I r ⟨t, p, h⟩ => p.run pins s σ H vs us Q I r h⟩
  refine ⟨_, ps_asg p1 (pg_tup (n := xs.length) hc pt h1 h2) hs hw h5, fun Hd0 H0 Hd H σ D S z => q1 Hd H σ S.env _ fun v Hd1 H1 g dv => ?_⟩
  cases dv with
  | @tup A vs _ k1 k2 =>
    obtain ⟨t, p2, q2⟩ := pns_run (X := X) (tb := tb) (Hd0 := Hd0) (H0 := H0) (Hd := Hd1) (H := H1) hN hp
    exact ⟨A, vs, rfl, st_sub g.h.s k1, dpa_len k2, t, p2, q2 vs xs σ ds k2 hl (S.up g) _ fun σ' S' => z σ' Hd1 H1 S' g.d⟩
theorem sd_unpackL (h : PEd X tb a ds (.list xs)) (hp : PNs X tgs is) (hc : X.calm = true) (hN : X.N.Nodup) (hl : is.length = xs.length := by rfl) (h1 : (assignEach tgs X.env).length = xs.length := by rfl) (h2 : (assignEach tgs X.env).findIdx? (·.1) = none := by rfl)
    (hs : swapsWithSole [.Tuple tgs kk pos1] a pos.line X.env = pure false := by rfl) (hw : swappedStores [.Tuple tgs kk pos1] a X.env = pure none := by rfl)
    (h5 : (assignEach [.Tuple tgs kk pos1] X.env).map (·.2) = [assign (.Tuple tgs kk pos1) X.env] := by rfl) :
    PSd X tb W (.Assign [.Tuple tgs kk pos1] a pos) ds (.nx (setD ds is xs)) := by
  obtain ⟨ta, p1, q1⟩ := h
  let tt : TGs := fun vs σ H Q => ∃ t, PGs X tgs t ∧ t vs σ H Q
  have pt : PGs X tgs tt := ⟨fun pins s σ H vs us Q I r ⟨t, p, h⟩ => p.run pins s σ H vs us Q I r h⟩
  refine ⟨_, ps_asg p1 (pg_lst (n := xs.length) hc pt h1 h2) hs hw h5, fun Hd0 H0 Hd H σ D S z => q1 Hd H σ S.env _ fun v Hd1 H1 g dv => ?_⟩
  cases dv with
  | @lst A vs _ k1 k2 =>
    obtain ⟨t, p2, q2⟩ := pns_run (X := X) (tb := tb) (Hd0 := Hd0) (H0 := H0) (Hd := Hd1) (H := H1) hN hp
    exact ⟨A, vs, rfl, sl_sub g.h.s k1, dpa_len k2, t, p2, q2 vs xs σ ds k2 hl (S.up g) _ fun σ' S' => z σ' Hd1 H1 S' g.d⟩
/-! ### is of truths -/
theorem cmp_isB {i j : Bool} : CmpD X tb .Is (.bool i) (.bool j) (decide (i = j)) := ⟨⟨_, op_isBl, fun Hd H x y D _ dx dy Q q => by
  cases dx
  cases dy
  exact ⟨i, j, rfl, rfl, q _ Hd H (Gr.refl D) (.bl _)⟩⟩⟩
theorem cmp_isNotB {i j : Bool} : CmpD X tb .IsNot (.bool i) (.bool j) (!decide (i = j)) := ⟨⟨_, op_notBl, fun Hd H x y D _ dx dy Q q => by
  cases dx
  cases dy
  exact ⟨i, j, rfl, rfl, q _ Hd H (Gr.refl D) (.bl _)⟩⟩⟩
/-! ### all of a list of truths -/
theorem dpa_bls {K : PySem.W.Frag} {Hd : Hp} : ∀ {vs : List V} {bs : List Bool}, DpAll K Hd vs (bs.map PyData.bool) → vs = bs.map V.bl
  | _, [], h => by cases h; rfl
  | _, y :: ys, h => by
    cases h with
    | cons h1 h2 =>
      cases h1
      rw [dpa_bls h2] <;> rfl
theorem ed_allL {bs : List Bool} (hc : X.calm = true) (hm : X.mg "all" = none) (ha : PEd X tb a ds (.list (bs.map .bool))) (hg : Gl X "all" := by rfl) (hb : bootBuiltins "all" = some (.builtin "all") := by decide +kernel) (hs : starEach [a] X.env = (false, eval a X.env) :: starEach [] X.env := by rfl) :
    PEd X tb (.Call (.Name "all" p) [a] [] pos) ds (.bool (bs.all id)) :=
  ed_callB (r := rAll X.K) (cr_all hc) (fun Hd H vs D dx Q q => by
    cases dx with
    | cons h1 h2 =>
      cases h2
      cases h1 with
      | @lst A us _ k1 k2 =>
        have e := dpa_bls k2
        subst e
        exact ⟨A, bs, rfl, sl_sub D.s k1, q _ Hd H (Gr.refl D) (.bl _)⟩) hm hb (ad_cons ha ad_nil hs) hg (by decide) (by decide) hs (by rfl)
/-! ### int of a truth -/
theorem ed_intB {b : Bool} (hm : X.mg "int" = none) (ha : PEd X tb a ds (.bool b)) (hg : Gl X "int" := by rfl) (hb : bootBuiltins "int" = some (.type "int") := by decide +kernel) (hs : starEach [a] X.env = (false, eval a X.env) :: starEach [] X.env := by rfl) :
    PEd X tb (.Call (.Name "int" p) [a] [] pos) ds (.int (if b then 1 else 0)) :=
  ed_callTy (T := "int") call_int1 (fun Hd H vs D dx Q q => by
    cases dx with
    | cons h1 h2 =>
      cases h2
      cases h1
      exact .inr ⟨b, rfl, q _ Hd H (Gr.refl D) (.int _)⟩) hm hb (ad_cons ha ad_nil hs) hg (by decide) (by decide) hs (by rfl)
/-! ### a table of the module: is a text in it -/
theorem ed_notInKd {A : Addr} {z : Str} {r : Option Value} {en : Array DictEntry} {n : Nat} (D : KDict X.K X.w A en n) (hm : X.mg x = some (.ref A)) (hv : PySem.W.nsIn X.K A z = some r) (ha : PEd X tb a ds (.str z)) (hg : Gl X x := by rfl) (hdb : (x == ("__debug__" : Str)) = false := by decide)
    (hmk : behindInMarks .NotIn (.Name x px) = false := by first | exact nomark _ | rfl) : PEd X tb (.Compare a [.NotIn] [.Name x px] pos) ds (.bool (!r.isSome)) :=
  let ⟨_, p1, q1⟩ := ha; ⟨_, pe_cmpR (op_notIn_kd D) p1 (pe_glob (v := .ref A) hg hm rfl hdb) hmk, fun Hd H σ E Q q => q1 Hd H σ E _ fun v Hd1 H1 g dv => by
    cases dv
    exact ⟨z, r, rfl, rfl, hv, q _ Hd1 H1 g (.bl _)⟩⟩
theorem td_notInKd {A : Addr} {z : Str} {r : Option Value} {en : Array DictEntry} {n : Nat} {kk : Bool} (D : KDict X.K X.w A en n) (hm : X.mg x = some (.ref A)) (hv : PySem.W.nsIn X.K A z = some r) (ha : PEd X tb a ds (.str z)) (hk : (!r.isSome) = kk := by rfl) (hg : Gl X x := by rfl) (hdb : (x == ("__debug__" : Str)) = false := by decide)
    (hmk : behindInMarks .NotIn (.Name x px) = false := by first | exact nomark _ | rfl) : PTd X tb (.Compare a [.NotIn] [.Name x px] pos) ds kk :=
  let ⟨_, p1, q1⟩ := ha; ⟨_, pt_cmpR (op_notIn_kd D) p1 (pe_glob (v := .ref A) hg hm rfl hdb) hmk, fun Hd H σ E Q q => q1 Hd H σ E _ fun v Hd1 H1 g dv => by
    cases dv
    exact ⟨z, r, rfl, rfl, hv, kk, by rw [hk], q Hd1 H1 g⟩⟩
/-! ### values that are no data -/
def PVd (X : Cx) (tb : List Addr) (e : Expr) (ds : List Sl) (v : V) : Prop := ∃ t, PE X e t ∧ ∀ (Hd H : Hp) (σ : L2.St), Env X.K tb Hd H σ ds → ∀ Q : VK, (∀ Hd' H', Gr Hd H Hd' H' → Q v H') → t σ H Q
theorem vd_kdGet {A : Addr} {z : Str} {u : Value} {v : V} {en : Array DictEntry} {n : Nat} (D : KDict X.K X.w A en n) (hm : X.mg x = some (.ref A)) (hv : PySem.W.nsIn X.K A z = some (some u)) (r : RelV v u) (ha : PEd X tb a ds (.str z)) (hg : Gl X x := by rfl) (hdb : (x == ("__debug__" : Str)) = false := by decide) (hs : PlainIx a := by exact fun _ _ => rfl) :
    PVd X tb (.Subscript (.Name x px) a pos) ds v :=
  let ⟨_, p1, q1⟩ := ha; ⟨_, pe_ix (ix_kd D) (pe_glob (v := .ref A) hg hm rfl hdb) p1 hs, fun Hd H σ E Q k => q1 Hd H σ E _ fun w Hd1 H1 g dw => by
    cases dw
    exact ⟨z, u, v, rfl, rfl, hv, r, k Hd1 H1 g⟩⟩
theorem sd_setV (i : Nat) {v : V} (h : PVd X tb a ds v) (hN : X.N.Nodup) (hi : X.N[i]? = some x := by rfl) (hx : locB X.env.scope x = true := by rfl) (hs : swapsWith a (some (.Name x pos')) pos.line X.env = pure false := by rfl)
    (hf : X.fn x = true ∨ X.env.scope.names.lookup x = some .local := by first | exact .inl rfl | exact .inr rfl) : PSd X tb W (.Assign [.Name x pos'] a pos) ds (.nx (ds.set i (.val v))) :=
  let ⟨_, p1, q1⟩ := h; ⟨_, ps_set hN hi (locB_ok hx) p1 hs hf, fun Hd0 H0 Hd H σ D S p => q1 Hd H σ S.env _ fun Hd' H' g => p _ Hd' H' ((S.up g).set (s := .val v) rfl fun _ z => nomatch z) g.d⟩
/-- a def at an address -/
structure FnAt (P : Program) (w : World) (K : PySem.W.Frag) (mg : Str → Option Value) (base : Heap) (tb : List Addr) (f : Addr) (ps : List Str) (k : Nat) (R : List PyData → PyData → Prop) : Prop where
  ex : ∃ fd : FuncData, FnOk P w K mg base CX0 k f fd ps (spD K tb ps.length R) ∧ PySem.W.keepIn K (.ref f) = true ∧ Binds K fd ps []
theorem ed_callLoc (i : Nat) {R : List PyData → PyData → Prop} {fa : Addr} (G : FnAt X.prog X.w X.K X.mg X.base tb fa ps k R) (hr : Room k X.A) (ha : PAd X tb (a :: args) ds fs) (hR : R fs d) (hd : ds[i]? = some (.val (.ref fa)) := by rfl) (hl : fs.length = ps.length := by rfl) (hN : X.N[i]? = some x := by rfl) (hv : visB X.env.scope x = true := by rfl) (hdb : (x == ("__debug__" : Str)) = false := by decide) (hcd : (x == ("__classdict__" : Str)) = false := by decide)
    (he : starEach (a :: args) X.env = (false, eval a X.env) :: starEach args X.env := by rfl) (hpl : (backTo pos (starEach args X.env)).any (·.1) = false := by rfl) : PEd X tb (.Call (.Name x p) (a :: args) [] pos) ds d := by
  obtain ⟨fd, F, hk, hb⟩ := G.ex
  obtain ⟨t, p1, q1⟩ := ha
  refine ⟨_, pe_callL F hr hN (visB_ok hv) hk hb .nil (pass0 (X := X)) p1 hdb hcd he hpl, fun Hd H σ E Q z => ⟨E.val hd, q1 Hd H σ E _ fun vs Hd1 H1 g dv => ?_⟩⟩
  have E1 := E.up g
  refine ⟨Hd1, fs, d, by rw [List.append_nil, dpa_len dv]; exact hl, g.h, E1.tb, by rw [List.append_nil]; exact dv, hR, fun v Hd2 H2 g2 _ dv2 => z v Hd2 H2 (g.trans g2) dv2⟩
end
end DL
/-! DL36: a dict of one's own with text keys: written, put together, asked. -/
namespace L2
open PySem PySem.Spec PyProof.Rows
section
variable {X : Cx} {pins : List (Addr × Obj)} {σ : St} {H : Hp} {s : Shared} {a b : Addr} {kvs more : List (Key × V)} {A : Around} {E : Value → Shared → Prop}
theorem d_update {Q : Value → Shared → Prop} (I : Inv X pins σ H s) (e : H a = some (.dK kvs)) (e2 : H b = some (.dK more)) (hne : a ≠ b) (hl : kvs.length + more.length ≤ sizeLine) (h : ∀ s', Inv X pins σ (upd H a (.dK (mergeK kvs more))) s' → Q .none s') :
    wpAny (model X.prog X.w) A (call (.builtin "dict.update") [.ref a, .ref b]) Q E s := by
  obtain ⟨z, hd, vs, rel, dd⟩ := dk_of I.hok e
  obtain ⟨z2, hd2, ms, rel2, dd2⟩ := dk_of I.hok e2
  refine call_meetsIn PySem.F.slot_dict_update dd.typeIs PySem.F.entry_dict_update (PySem.F.args_dict_update_2 _ _) (meets_dict_update (mixKind X.prog X.w) a b hne hd2) ⟨vs, ms, dd, dd2, by rw [← rel.length, ← rel2.length]; exact hl, fun h' dd' _ hs => h _ ?_⟩
  have he : ∃ q, h'.get? a = some q := let ⟨q, _, _, hq, _⟩ := dd'; ⟨q, hq⟩
  exact d_write I (by rw [e]; exact True.intro) hs he (dk_new (Nat.le_trans (length_mergeK more kvs) hl) hd (KV.merge rel2 rel) dd')
end
def tDUpd (td ty : TE) : TE := fun σ H Q => td σ H fun x H1 => ∃ a, x = .ref a ∧ IsD H1 a ∧ ty σ H1 fun y H2 => ∃ b kvs more, y = .ref b ∧ a ≠ b ∧ H2 a = some (.dK kvs) ∧ H2 b = some (.dK more) ∧ kvs.length + more.length ≤ sizeLine ∧ Q .non (upd H2 a (.dK (mergeK kvs more)))
section
variable {X : Cx} {o e f : Expr} {apos cpos : Pos} {td ty tx : TE}
theorem pe_dupd (ho : PE X o td) (he : PE X e ty) (m : M1 X o "update" apos e cpos) : PE X (.Call (.Attribute o "update" apos) [e] [] cpos) (tDUpd td ty) := by
  refine ⟨fun pins s σ H Q I h => ?_⟩
  refine wpAny_Call_method m.base m.few m.line PySem.F.plainAttrs_dict PySem.F.slot_dict_update PySem.F.type_dict_update (thn (ho.run pins s σ H _ I h) fun u s1 ⟨x, H1, I1, rx, a, ex, d, q1⟩ => ?_)
  subst ex
  obtain rfl : u = Value.ref a := rx
  obtain ⟨t1, t2, _⟩ := isD_at I1 d
  refine ⟨t1, t2, ?_⟩
  rw [m.trees]
  refine Calls.callWith_builtin rfl (Calls.evalArgs_plain (Calls.spliced_cons (thn (he.run pins s1 σ H1 _ I1 q1) fun iv s2 ⟨y, H2, I2, ry, b, kvs, more, ey, hne, e1, e2, hl, q2⟩ => Calls.spliced_nil ?_)))
  subst ey
  obtain rfl : iv = Value.ref b := ry
  exact d_update I2 e1 e2 hne hl fun s3 I3 => ⟨.non, _, I3, rfl, q2⟩
end
end L2
namespace DL
open PySem PySem.Spec PyProof.Rows L2
/-- the written pairs of a display: texts, and texts or whole numbers -/
inductive PPc (X : Cx) : List (Option Expr) → List Expr → List (Str × V) → Prop where
  | nil : PPc X [] [] []
  | str {k v : Str} {i j : Nat} {p q : Pos} {ks : List (Option Expr)} {vs : List Expr} {r : List (Str × V)} (h : PPc X ks vs r) : PPc X (some (.Constant (.str k) i p) :: ks) (.Constant (.str v) j q :: vs) ((k, .str v) :: r)
  | int {k : Str} {v : Int} {i j : Nat} {p q : Pos} {ks : List (Option Expr)} {vs : List Expr} {r : List (Str × V)} (h : PPc X ks vs r) : PPc X (some (.Constant (.str k) i p) :: ks) (.Constant (.int v) j q :: vs) ((k, .int v) :: r)
theorem ppc_ts {X : Cx} {pos : Pos} : ∀ {ks : List (Option Expr)} {vs : List Expr} {r : List (Str × V)}, PPc X ks vs r → ∃ trs, PPs X pos ks vs trs ∧ ∀ (σ : L2.St) (H : Hp) (Q : List (V × V) → Hp → Prop), Q (r.map fun p => (V.str p.1, p.2)) H → tPairs trs σ H Q
  | _, _, _, .nil => ⟨[], pps_nil, fun _ _ _ q => q⟩
  | _, _, _, .str h => by
    obtain ⟨trs, p, q⟩ := ppc_ts (pos := pos) h
    exact ⟨_, pps_cons pe_str pe_str p, fun σ H Q z => q σ H _ z⟩
  | _, _, _, .int h => by
    obtain ⟨trs, p, q⟩ := ppc_ts (pos := pos) h
    exact ⟨_, pps_cons pe_str pe_int p, fun σ H Q z => q σ H _ z⟩
theorem ppc_all {X : Cx} : ∀ {ks : List (Option Expr)} {vs : List Expr} {r : List (Str × V)}, PPc X ks vs r → ks.all (·.isSome) = true ∧ ks.length = vs.length ∧ ks.length = r.length
  | _, _, _, .nil => ⟨rfl, rfl, rfl⟩
  | _, _, _, .str h => by
    obtain ⟨h1, h2, h3⟩ := ppc_all h
    exact ⟨by rw [List.all_cons, h1] <;> rfl, congrArg (· + 1) h2, congrArg (· + 1) h3⟩
  | _, _, _, .int h => by
    obtain ⟨h1, h2, h3⟩ := ppc_all h
    exact ⟨by rw [List.all_cons, h1] <;> rfl, congrArg (· + 1) h2, congrArg (· + 1) h3⟩
def keyedV (r : List (Str × V)) : List (Key × V) := r.map fun p => (Sum.inr p.1, p.2)
def dictS (kvs : List (Key × V)) : Sl := .hp (fun v Hd => ∃ a, v = .ref a ∧ Hd a = some (.dK kvs)) fun _ _ _ s ⟨a, e, h⟩ => ⟨a, e, s a _ h⟩
section
variable {X : Cx} {tb : List Addr} {W : WX'} {ds es : List Sl} {d e f g : PyData} {a b c : Expr} {pos pos' pos1 pos2 pos3 p px py : Pos} {x y : Str} {k : Nat} {rest : List Stmt} {o : Out}
/-- a display, as a reading -/
theorem disp_run {ks : List (Option Expr)} {vs : List Expr} {r : List (Str × V)} (h : PPc X ks vs r) (h0 : ks ≠ []) (h15 : ks.length ≤ 15) : ∃ t, PE X (.Dict ks vs pos) t ∧ ∀ (σ : L2.St) (H : Hp) (Q : VK), (∀ c, H c = none → Q (.ref c) (upd H c (.dK (mergeK [] (keyedV r))))) → t σ H Q := by
  obtain ⟨trs, p1, q1⟩ := ppc_ts (pos := pos) h
  obtain ⟨l1, l2, l3⟩ := ppc_all h
  refine ⟨_, pe_disp p1 l1 l2 h0 h15, fun σ H Q q => ?_⟩
  intro c hc
  refine q1 σ _ _ ⟨upd_same, keyedV r, ?_, ?_, ?_⟩
  · unfold keyedV
    rw [List.map_map] <;> rfl
  · unfold keyedV
    rw [List.length_map, ← l3]
    exact h15
  · rw [upd_upd]
    exact q c hc
/-- x = {..} -/
theorem sd_dict (i : Nat) {ks : List (Option Expr)} {vs : List Expr} {r : List (Str × V)} (h : PPc X ks vs r) (hN : X.N.Nodup) (h0 : ks ≠ [] := by exact fun z => nomatch z) (h15 : ks.length ≤ 15 := by decide) (hi : X.N[i]? = some x := by rfl) (hx : locB X.env.scope x = true := by rfl) (hs : swapsWith (.Dict ks vs pos1) (some (.Name x pos')) pos.line X.env = pure false := by rfl)
    (hf : X.fn x = true ∨ X.env.scope.names.lookup x = some .local := by first | exact .inl rfl | exact .inr rfl) : PSd X tb W (.Assign [.Name x pos'] (.Dict ks vs pos1) pos) ds (.nx (ds.set i (dictS (mergeK [] (keyedV r))))) := by
  obtain ⟨t, p1, q1⟩ := disp_run (X := X) (pos := pos1) h h0 h15
  refine ⟨_, ps_set hN hi (locB_ok hx) p1 hs hf, fun Hd0 H0 Hd H σ D S z => q1 σ H _ fun c hc => ?_⟩
  have g := Gr.new (o := .dK (mergeK [] (keyedV r))) S.env.dh hc fun _ z => HO.noConfusion z
  exact z _ _ _ ((S.up g).set (i := i) (s := dictS (mergeK [] (keyedV r))) ⟨c, rfl, upd_same⟩ fun _ z => nomatch z) g.d
theorem len_keyed (r : List (Str × V)) : (keyedV r).length = r.length := by
  unfold keyedV
  rw [List.length_map]
/-- x = {..}, x.update({..}) -/
theorem bd_dictUpd (i : Nat) {ks ks2 : List (Option Expr)} {vs vs2 : List Expr} {r r2 : List (Str × V)} {apos cpos dpos : Pos} (h : PPc X ks vs r) (h2 : PPc X ks2 vs2 r2) (hN : X.N.Nodup) (hk : PBd X tb W rest (ds.set i (dictS (mergeK (mergeK [] (keyedV r)) (mergeK [] (keyedV r2))))) o) (il : i < ds.length := by decide) (h0 : ks ≠ [] := by exact fun z => nomatch z) (h15 : ks.length ≤ 15 := by decide) (h02 : ks2 ≠ [] := by exact fun z => nomatch z) (h152 : ks2.length ≤ 15 := by decide) (hi : X.N[i]? = some x := by rfl) (hx : locB X.env.scope x = true := by rfl) (hs : swapsWith (.Dict ks vs pos1) (some (.Name x pos')) pos.line X.env = pure false := by rfl)
    (hf : X.fn x = true ∨ X.env.scope.names.lookup x = some .local := by first | exact .inl rfl | exact .inr rfl) (hv : visB X.env.scope x = true := by rfl) (hd1 : (x == ("__debug__" : Str)) = false := by decide) (hd2 : (x == ("__classdict__" : Str)) = false := by decide)
    (hbase : attributeBase (.Name x px) "update" X.env (eval (.Name x px) X.env) = eval (.Name x px) X.env := by rfl)
    (hfew : ((backTo cpos (starEach [.Dict ks2 vs2 dpos] X.env)).all (fun x => !x.1) && (backToKw cpos (keywordEach [] X.env)).all (fun x => x.1.isSome)
      && decide (([.Dict ks2 vs2 dpos] : List Expr).length + ([] : List Keyword).length + (if ([] : List Keyword).isEmpty then 0 else 1) < 30)) = true := by rfl)
    (hline : (apos.endLine == cpos.line) = true := by rfl) (htrees : backTo cpos (starEach [.Dict ks2 vs2 dpos] X.env) = [(false, eval (.Dict ks2 vs2 dpos) X.env)] := by rfl)
    (hsw : swapsWith (.Call (.Attribute (.Name x px) "update" apos) [.Dict ks2 vs2 dpos] [] cpos) none pos2.line X.env = pure false := by rfl) :
    PBd X tb W (.Assign [.Name x pos'] (.Dict ks vs pos1) pos :: .Expr (.Call (.Attribute (.Name x px) "update" apos) [.Dict ks2 vs2 dpos] [] cpos) pos2 :: rest) ds o := by
  obtain ⟨t, p1, q1⟩ := disp_run (X := X) (pos := pos1) h h0 h15
  obtain ⟨t2, p2, q2⟩ := disp_run (X := X) (pos := dpos) h2 h02 h152
  obtain ⟨t3, p3, q3⟩ := hk
  obtain ⟨_, _, l3⟩ := ppc_all h
  obtain ⟨_, _, l4⟩ := ppc_all h2
  refine ⟨_, pss_cons (ps_set hN hi (locB_ok hx) p1 hs hf) (pss_cons (ps_expr (pe_dupd (pe_var hi (visB_ok hv) hd1 hd2) p2 ⟨hbase, hfew, hline, htrees⟩) hsw) p3), fun Hd0 H0 Hd H σ D S z => q1 σ H _ fun c hc => ?_⟩
  refine ⟨.ref c, List.getElem?_set_self (by rw [S.env.len]; exact il), c, rfl, .inl ⟨_, .inl upd_same⟩, q2 _ _ _ fun c2 hc2 => ?_⟩
  have ne : c ≠ c2 := fun q => by
    rw [← q, upd_same] at hc2
    cases hc2
  have hc3 : H c2 = none := by rw [upd_ne (Ne.symm ne)] at hc2; exact hc2
  refine ⟨c2, mergeK [] (keyedV r), mergeK [] (keyedV r2), rfl, ne, by rw [upd_ne ne]; exact upd_same, upd_same, ?_, ?_⟩
  · have k1 := length_mergeK (keyedV r) []
    have k2 := length_mergeK (keyedV r2) []
    rw [len_keyed, ← l3] at k1
    rw [len_keyed, ← l4] at k2
    refine Nat.le_trans (show _ ≤ 30 by simp only [List.length_nil] at k1 k2; omega) (by decide)
  · have e : upd (upd (upd H c (.dK (mergeK [] (keyedV r)))) c2 (.dK (mergeK [] (keyedV r2)))) c (.dK (mergeK (mergeK [] (keyedV r)) (mergeK [] (keyedV r2)))) = upd (upd H c2 (.dK (mergeK [] (keyedV r2)))) c (.dK (mergeK (mergeK [] (keyedV r)) (mergeK [] (keyedV r2)))) := by
      funext b
      by_cases q1 : b = c
      · rw [q1, upd_same, upd_same]
      · rw [upd_ne q1, upd_ne q1]
        by_cases q2 : b = c2
        · rw [q2, upd_same, upd_same]
        · rw [upd_ne q2, upd_ne q2, upd_ne q1]
    rw [e]
    have g1 := Gr.newOut (o := .dK (mergeK [] (keyedV r2))) S.env.dh hc3
    have g2 := Gr.new (p := c) (o := .dK (mergeK (mergeK [] (keyedV r)) (mergeK [] (keyedV r2)))) g1.h (by rw [upd_ne ne]; exact hc) fun _ z => HO.noConfusion z
    have g := g1.trans g2
    exact q3 Hd0 H0 _ _ _ D ((S.up g).set (i := i) (s := dictS _) ⟨c, rfl, upd_same⟩ fun _ z => nomatch z) (z.back g.d)
/-- x.get(key, other) -/
theorem ed_dictGet2 (i : Nat) {kvs : List (Key × V)} {z : Str} {apos cpos : Pos} (hr : Room k X.A) (ha : PEd X tb a ds (.str z)) (hb : PEd X tb b ds g) (h1 : ∀ v, valV kvs (.inr z) = some v → ∀ Hd, Dp X.K Hd v d) (h2 : valV kvs (.inr z) = none → g = d) (hd : ds[i]? = some (dictS kvs) := by rfl) (hN : X.N[i]? = some x := by rfl) (hv : visB X.env.scope x = true := by rfl) (hd1 : (x == ("__debug__" : Str)) = false := by decide) (hd2 : (x == ("__classdict__" : Str)) = false := by decide)
    (hbase : attributeBase (.Name x px) "get" X.env (eval (.Name x px) X.env) = eval (.Name x px) X.env := by rfl)
    (hfew : ((backTo cpos (starEach [a, b] X.env)).all (fun x => !x.1) && (backToKw cpos (keywordEach [] X.env)).all (fun x => x.1.isSome)
      && decide (([a, b] : List Expr).length + ([] : List Keyword).length + (if ([] : List Keyword).isEmpty then 0 else 1) < 30)) = true := by rfl)
    (hline : (apos.endLine == cpos.line) = true := by rfl) (htrees : backTo cpos (starEach [a, b] X.env) = [(false, eval a X.env), (false, eval b X.env)] := by rfl) :
    PEd X tb (.Call (.Attribute (.Name x px) "get" apos) [a, b] [] cpos) ds d := by
  obtain ⟨t1, p1, q1⟩ := ha
  obtain ⟨t2, p2, q2⟩ := hb
  refine ⟨_, pe_dget2 (hu_of hr) (pe_var hN (visB_ok hv) hd1 hd2) p1 p2 ⟨hbase, hfew, hline, htrees⟩, fun Hd H σ E Q q => ?_⟩
  obtain ⟨o, e1, e2⟩ := E.sl i _ hd
  cases o with
  | none => exact e2.elim
  | some w =>
    obtain ⟨c, rfl, hc⟩ : ∃ c, w = .ref c ∧ Hd c = some (.dK kvs) := e2
    refine ⟨.ref c, e1, c, rfl, .inl ⟨kvs, .inl (E.dh.s c _ hc)⟩, q1 Hd H σ E _ fun v Hd1 H1 g1 dv => q2 Hd1 H1 σ (E.up g1) _ fun u Hd2 H2 g2 du => ?_⟩
    cases dv
    refine ⟨_, DGet.k (k := Sum.inr z) (g2.h.s c _ ((g1.trans g2).d c _ hc)), ?_⟩
    cases e : valV kvs (.inr z) with
    | none => exact q u Hd2 H2 (g1.trans g2) (h2 e ▸ du)
    | some v => exact q v Hd2 H2 (g1.trans g2) (h1 v e Hd2)
end
end DL
/-! DL37: tuple * 0, tuple * 1. -/
namespace L2
open PySem PySem.Spec PyProof.Rows
theorem tuple_mul1 (l : Addr) (items : Array Value) (n : Nat) (dd : Option Addr) (sl : Array (Option Value)) (u : Tok) :
    Meets (Builtin.«tuple.__mul__» ⟨[.ref l, .int 1 u], []⟩) (fun _ R s => s.heap.get? l = some { cls := .type "tuple", dict := dd, data := .seq items n, slots := sl } ∧ R (.ok (.ret (Value.ref l))) s) :=
  .of_wp fun prog w A R s h => by
    obtain ⟨hp, g, d, tk, os⟩ := s
    obtain ⟨hl, h⟩ := h
    have f1 := AutoSeq1.idx_int
    wp_walk using wpAny_loadPart' hl
    repeat (first
      | (refine wpAny_ite_false (by decide) ?_; wp_walk using wpAny_loadPart' hl)
      | (refine wpAny_ite_true (by simp) ?_; wp_walk using wpAny_loadPart' hl))
    exact ⟨_, rfl, h⟩
theorem tuple_mul0 (l : Addr) (items : Array Value) (n : Nat) (dd : Option Addr) (sl : Array (Option Value)) (u : Tok) (hi : items.isEmpty = false) :
    Meets (Builtin.«tuple.__mul__» ⟨[.ref l, .int 0 u], []⟩) (fun _ R s => s.heap.get? l = some { cls := .type "tuple", dict := dd, data := .seq items n, slots := sl } ∧
      R (.ok (.ret (Value.ref s.heap.objs.size))) { s with heap := s.heap.push { cls := Value.type "tuple", data := Data.seq #[] }, toks := s.toks }) :=
  .of_wp fun prog w A R s h => by
    obtain ⟨hp, g, d, tk, os⟩ := s
    obtain ⟨hl, h⟩ := h
    have f1 := AutoSeq1.idx_int
    wp_walk using wpAny_loadPart' hl
    repeat (first
      | (refine wpAny_ite_false (by first | decide | (rw [hi]; decide)) ?_; wp_walk using wpAny_loadPart' hl)
      | (refine wpAny_ite_true (by simp) ?_; wp_walk using wpAny_loadPart' hl))
    exact ⟨_, rfl, h⟩
def rRep01 (K : PySem.W.Frag) : R2 := fun x y H Q => ∃ l k xs, x = .ref l ∧ y = .int k ∧ SqT K H l xs ∧ xs ≠ [] ∧ (k = 0 ∨ k = 1) ∧ (k = 1 → Q (.ref l) H) ∧ (k = 0 → ∀ p, H p = none → Q (.ref p) (upd H p (.tup [])))
section
variable {X : Cx}
theorem op_rep01 : OpR X (binaryOp .Mult) (rRep01 X.K) := by
  intro pins s σ H x y v u Q I rx ry h
  obtain ⟨l, k, xs, rfl, rfl, hT, hne, hk, q1, q0⟩ := h
  cases rx
  obtain ⟨t, rfl⟩ := ry
  obtain ⟨its, r, ⟨⟨cls, dd, data, sl⟩, ho, hc, n, hd⟩, hs⟩ := I.tuple hT
  simp only at hc hd
  subst hc hd
  have hle : its.length = xs.length := r.length.symm
  have hi : its.toArray.isEmpty = false := by
    cases its with
    | nil => exact absurd (List.eq_nil_of_length_eq_zero hle.symm) hne
    | cons a b => rfl
  rcases hk with rfl | rfl
  · refine wpAny_binaryOp_repeat_ref (T := "tuple") (U := "int") (by decide) ⟨_, ho, rfl⟩ (fun s' => typeIs_int s' 0 t) noFill_tuple_mul F.fills_int_mul F.slot_int_rmul repeat_tuple F.slot_int_index.lookup
      (call_meets F.slot_int_rmul (typeIs_int s 0 t) F.entry_int_rmul (F.args_int_rmul_2 _ _) (int_rmul_tuple 0 t l its.toArray n dd sl)
        ⟨ho, rfl, ⟨_, ho, rfl⟩, call_meets F.slot_tuple_mul ⟨_, ho, rfl⟩ F.entry_tuple_mul (F.args_tuple_mul_2 _ _) (tuple_mul0 l its.toArray n dd sl t hi) ⟨ho, ?_⟩⟩)
    refine ⟨.ref s.heap.objs.size, _, I.laid (t' := s.toks) (o := .tup []) (fun b ob q => Heap.get?_push_of_some _ q) (Nat.le_refl _) ?_, rfl, q0 rfl _ (I.hok.fresh (Nat.le_refl _))⟩
    exact ⟨Nat.zero_le _, _, .nil, IsTup.new _ _⟩
  · refine wpAny_binaryOp_repeat_ref (T := "tuple") (U := "int") (by decide) ⟨_, ho, rfl⟩ (fun s' => typeIs_int s' 1 t) noFill_tuple_mul F.fills_int_mul F.slot_int_rmul repeat_tuple F.slot_int_index.lookup
      (call_meets F.slot_int_rmul (typeIs_int s 1 t) F.entry_int_rmul (F.args_int_rmul_2 _ _) (int_rmul_tuple 1 t l its.toArray n dd sl)
        ⟨ho, rfl, ⟨_, ho, rfl⟩, call_meets F.slot_tuple_mul ⟨_, ho, rfl⟩ F.entry_tuple_mul (F.args_tuple_mul_2 _ _) (tuple_mul1 l its.toArray n dd sl t) ⟨ho, ?_⟩⟩)
    exact ⟨.ref l, H, I, rfl, q1 rfl⟩
end
end L2
namespace DL
open PySem PySem.Spec PyProof.Rows L2
section
variable {X : Cx} {tb : List Addr} {ds : List Sl} {d : PyData} {b : Expr} {pos p : Pos}
theorem bin_rep01 {xs : List PyData} {k : Int} (hne : xs ≠ []) (h : k = 0 ∨ k = 1) : BinD X tb .Mult (.tuple xs) (.int k) (.tuple (if k = 1 then xs else [])) := ⟨⟨_, op_rep01, fun Hd H x y D _ dx dy Q q => by
  cases dy
  cases dx with
  | @tup A us _ h1 h2 =>
    refine ⟨A, k, us, rfl, rfl, st_sub D.s h1, fun e => hne (by
      have := dpa_len h2
      rw [e] at this
      exact List.eq_nil_of_length_eq_zero this.symm), h, fun e => ?_, fun e p hp => ?_⟩
    · rw [if_pos e] at q
      exact q _ Hd H (Gr.refl D) (.tup h1 h2)
    · rw [if_neg (by omega)] at q
      exact q _ _ _ (Gr.new D hp fun _ z => HO.noConfusion z) (.tup (.inl (.inl upd_same)) .nil)⟩⟩
/-- text.upper() -/
theorem ed_upper {z : Str} {apos : Pos} (hb : PEd X tb b ds (.str z)) (hl : z.length ≤ 5000000) (hbase : attributeBase b "upper" X.env (eval b X.env) = eval b X.env := by rfl) (hline : (apos.endLine == pos.line) = true := by rfl) : PEd X tb (.Call (.Attribute b "upper" apos) [] [] pos) ds (.str (Txt.upper z)) :=
  ed_bm0 (T := "str") (d := .str z) PySem.F.plainAttrs_str PySem.F.slot_str_upper PySem.F.type_str_upper mt_upper (fun Hd H x xs D dx dxs Q q => by
    cases dx
    cases dxs
    exact ⟨z, rfl, rfl, Nat.le_trans hl (by decide), q _ Hd H (Gr.refl D) (.str _)⟩) rfl hb hbase hline
end
/-! ### a list of one's own that is lent -/
/-- called with a list of one's own and data ds it hands back the list, changed -/
def spB (K : PySem.W.Frag) (tb : List Addr) (n : Nat) (R : List PyData → List PyData → List PyData → Prop) : Sp := fun vs H Q _ => ∃ (Hd : Hp) (a : Addr) (ws us : List V) (xs ds ys : List PyData), vs = .ref a :: us ∧ us.length = n ∧ DH Hd H ∧ (∀ P ∈ tb, GxR.TabG H P) ∧ Hd a = none ∧ H a = some (.lst ws) ∧ DpAll K Hd ws xs ∧ DpAll K Hd us ds ∧ R xs ds ys ∧
  ∀ (fo : Addr) (zs : List V) (Hd' H' : Hp), Gr Hd (without H a) Hd' H' → (∀ P ∈ tb, GxR.TabG H' P) → without H a fo = none → Hd' fo = none → H' fo = some (.lst zs) → DpAll K Hd' zs ys → Q (.ref fo) H'
theorem without_ne {H : Hp} {a b : Addr} (h : b ≠ a) : without H a b = H b := if_neg h
theorem without_self {H : Hp} {a : Addr} : without H a a = none := if_pos rfl
theorem gr_lent {Hd H : Hp} {a : Addr} {ws : List V} (D : DH Hd H) (hl : H a = some (.lst ws)) : Gr Hd (without H a) Hd H where
  d := Sub.refl _
  h := D
  e := ⟨fun b o e _ => by
    by_cases q : b = a
    · rw [q, without_self] at e
      cases e
    · rw [without_ne q] at e
      exact e, fun b ⟨ps, e1, e2⟩ => by
    by_cases q : b = a
    · rw [q, without_self] at e1
      cases e1
    · rw [without_ne q] at e1
      exact ⟨ps, e1, e2⟩, fun b e => by
    by_cases q : b = a
    · rw [q, hl] at e
      cases e
    · rw [without_ne q]
      exact e⟩
  f := fun _ e _ => e
section
variable {P : Program} {w : World} {K : PySem.W.Frag} {mg : Str → Option Value} {base : Heap} {x qual : Str} {params : Arguments} {body : List Stmt} {scope : Scope} {f : Addr} {fd : FuncData} {tb : List Addr}
theorem fnb_ok {N ps : List Str} {k n : Nat} {R : List PyData → List PyData → List PyData → Prop} (F : FunD K x qual params body scope [] [] f fd) (S : FnScope N ps scope) (hn : ps.length = n + 1) (hlen : n + 1 ≤ N.length)
    (hb : ∀ (xs ds ys : List PyData), R xs ds ys → ∀ (A : Around) (outer : List PySem.Env) (s : Shared) (H : Hp) (E : XK), Room k (A.deeper (envOfC qual scope s.heap.objs.size f fd.code)) →
      PBd (cxOf CX0 P w K mg base N qual scope f fd.code A outer s H E).nox tb W0 body (.own xs :: sd (N.drop 1) ds) (.ro ys)) : FnOk P w K mg base CX0 (k + 1) f fd ps (spB K tb n R) := by
  refine fok F S (fun vs H Q E h => ?_) fun A outer s H vs Q E hr h => ?_
  · obtain ⟨_, _, _, us, _, _, _, rfl, h, _⟩ := h
    rw [List.length_cons, h, hn]
  · obtain ⟨Hd, a, ws, us, xs, ds, ys, rfl, hl, D, ht, hd, ha, hx, hds, hR, q⟩ := h
    obtain ⟨t, p, r⟩ := hb xs ds ys hR A outer s H E hr
    refine ⟨t, p.nox, r Hd (without H a) Hd H _ _ ⟨?_, gr_lent D ha, fun i zs b e1 e2 => ?_⟩ fun fo zs Hd' H' g ht' h1 h2 h3 h4 => q fo zs Hd' H' g ht' h1 h2 h3 h4⟩
    · have ld := dpa_len hds
      have E0 : Env K tb Hd H (L2.start (N.drop 1) us) (sd (N.drop 1) ds) := start_env (by rw [hl, List.length_drop]; omega) D ht hds
      have es : L2.start N (.ref a :: us) = some (.ref a) :: L2.start (N.drop 1) us := by
        unfold L2.start
        rw [List.map_cons, List.cons_append, List.length_drop, List.length_cons, show N.length - (us.length + 1) = N.length - 1 - us.length by omega]
      rw [es]
      refine ⟨congrArg (· + 1) E0.len, D, ht, fun i sl e => ?_, fun i j zs zs' b n e1 e2 e3 e4 => ?_⟩
      · cases i with
        | zero =>
          cases e
          exact ⟨_, rfl, a, ws, rfl, ha, hd, hx⟩
        | succ i => exact E0.sl i sl e
      · cases i with
        | zero =>
          cases j with
          | zero => exact n rfl
          | succ j => exact (sd_noOwn e2).elim
        | succ i => exact (sd_noOwn e1).elim
    · cases i with
      | zero =>
        have e : a = b := by
          unfold L2.start at e2
          exact V.ref.inj (Option.some.inj (Option.some.inj e2))
        rw [← e]
        exact without_self
      | succ i => exact (sd_noOwn e1).elim
structure FnB (P : Program) (w : World) (K : PySem.W.Frag) (mg : Str → Option Value) (base : Heap) (tb : List Addr) (x : Str) (ps : List Str) (n k : Nat) (R : List PyData → List PyData → List PyData → Prop) : Prop where
  ex : ∃ (f : Addr) (fd : FuncData), FnOk P w K mg base CX0 k f fd ps (spB K tb n R) ∧ mg x = some (.ref f) ∧ PySem.W.keepIn K (.ref f) = true ∧ Binds K fd ps []
end
section
variable {X : Cx} {tb : List Addr} {W : WX'} {ds : List Sl} {pos pos' p p2 py : Pos} {x y : Str} {args : List Expr} {fs : List PyData} {ps : List Str} {n k : Nat}
/-- y = x(y, ..), y's list one's own before and behind -/
theorem sd_setLent (i : Nat) {R : List PyData → List PyData → List PyData → Prop} {xs ys : List PyData} (G : FnB X.prog X.w X.K X.mg X.base tb x ps n k R) (hr : Room k X.A) (ha : PAd X tb args ds fs) (hR : R xs fs ys) (hl : fs.length = n) (hN : X.N.Nodup) (e : ds[i]? = some (.own xs) := by rfl) (hi : X.N[i]? = some y := by rfl) (hy : locB X.env.scope y = true := by rfl) (hv : visB X.env.scope y = true := by rfl) (h1 : (y == ("__debug__" : Str)) = false := by decide) (h2 : (y == ("__classdict__" : Str)) = false := by decide) (hg : Gl X x := by rfl) (hdb : (x == ("__debug__" : Str)) = false := by decide)
    (he : starEach (.Name y py :: args) X.env = (false, eval (.Name y py) X.env) :: starEach args X.env := by rfl) (hpl : (backTo p2 (starEach args X.env)).any (·.1) = false := by rfl) (hs : swapsWith (.Call (.Name x p) (.Name y py :: args) [] p2) (some (.Name y pos')) pos.line X.env = pure false := by rfl)
    (hf : X.fn y = true ∨ X.env.scope.names.lookup y = some .local := by first | exact .inl rfl | exact .inr rfl) :
    PSd X tb W (.Assign [.Name y pos'] (.Call (.Name x p) (.Name y py :: args) [] p2) pos) ds (.nx (ds.set i (.own ys))) := by
  obtain ⟨fa, fd, F, hm, hk, hb⟩ := G.ex
  obtain ⟨t, p1, q1⟩ := ha
  refine ⟨_, ps_set hN hi (locB_ok hy) (pe_call F hr hg hm hk hb .nil (pass0 (X := X)) (pa_cons (pe_var hi (visB_ok hv) h1 h2) p1 he) hdb he hpl) hs hf, fun Hd0 H0 Hd H σ D S z => ?_⟩
  obtain ⟨a, ws, ea, hla, hda, hx⟩ := S.env.own e
  refine ⟨.ref a, ea, q1 Hd H σ S.env _ fun vs Hd1 H1 g dv => ?_⟩
  have S1 := S.up g
  have hl1 : H1 a = some (.lst ws) := g.e.k a _ hla fun _ z => nomatch z
  have hd1 : Hd1 a = none := g.f a hda (by rw [hla]; exact fun z => nomatch z)
  have h00 := S.fr i xs a e ea
  refine ⟨Hd1, a, ws, vs, xs, fs, ys, List.append_nil _, by rw [dpa_len dv]; exact hl, g.h, S1.env.tb, hd1, hl1, DpAll.up hx g.d, dv, hR, fun fo zs Hd2 H2 g2 ht hfo hn2 hl2 hz => ?_⟩
  -- as if the lent list had not been there
  have gl : Gr Hd0 H0 Hd1 (without H1 a) := ⟨S1.gr.d, ⟨fun b o q => by
      have nb : b ≠ a := ne_of_none q hd1
      rw [without_ne nb]
      exact g.h.s b o q, g.h.nt⟩, ⟨fun b o q no => by
      have nb : b ≠ a := ne_of_none q h00
      rw [without_ne nb]
      exact S1.gr.e.k b o q no, fun P hP => by
      obtain ⟨ps, e1, e2⟩ := S1.gr.e.t P hP
      have nP : P ≠ a := fun q => by
        rw [q, hl1] at e1
        cases e1
      exact ⟨ps, by rw [without_ne nP]; exact e1, e2⟩, fun b q => by
      by_cases nb : b = a
      · rw [nb]; exact h00
      · rw [without_ne nb] at q
        exact S1.gr.e.n b q⟩, S1.gr.f⟩
  have G2 := gl.trans g2
  have hfo0 : H0 fo = none := gl.e.n fo hfo
  have il : i < ds.length := (List.getElem?_eq_some_iff.mp e).1
  refine z _ Hd2 H2 ⟨⟨by rw [List.length_set, List.length_set]; exact S1.env.len, G2.h, ht, fun j s q => ?_, fun j j' us us' b nn e1 e2 e3 e4 => ?_⟩, G2, fun j us b e1 e2 => ?_⟩ (g.d.trans g2.d)
  · by_cases qq : i = j
    · subst qq
      rw [List.getElem?_set_self il] at q
      cases q
      exact ⟨_, List.getElem?_set_self (by rw [S1.env.len]; exact il), fo, zs, rfl, hl2, hn2, hz⟩
    · rw [List.getElem?_set_ne qq] at q
      obtain ⟨oo, k1, k2⟩ := S1.env.sl j s q
      refine ⟨oo, by rw [List.getElem?_set_ne qq]; exact k1, ?_⟩
      cases s with
      | no => cases oo <;> trivial
      | dat d =>
        cases oo with
        | none => exact k2.elim
        | some v => exact Dp.up k2 g2.d
      | val w =>
        cases oo with
        | none => exact k2.elim
        | some v => exact k2
      | hp φ st =>
        cases oo with
        | none => exact k2.elim
        | some v => exact st v _ _ g2.d k2
      | own us =>
        cases oo with
        | none => exact k2.elim
        | some v =>
          obtain ⟨b, vs', f1, f2, f3, f4⟩ := k2
          have nb : b ≠ a := fun z => by
            rw [f1, z] at k1
            exact S1.env.ap i j xs us a qq e q ea k1
          exact ⟨b, vs', f1, g2.e.k b _ (by rw [without_ne nb]; exact f2) (fun _ z => nomatch z), g2.f b f3 (by rw [without_ne nb, f2]; exact fun z => nomatch z), DpAll.up f4 g2.d⟩
  · have fresh : ∀ (m : Nat) (us : List PyData), i ≠ m → ds[m]? = some (.own us) → σ[m]? = some (some (.ref fo)) → False := fun m us hne f1 f2 => by
      obtain ⟨b, vs', f3, f4, _, _⟩ := S1.env.own f1
      rw [f2] at f3
      have eb : fo = b := V.ref.inj (Option.some.inj (Option.some.inj f3))
      by_cases nb : b = a
      · rw [eb, nb] at f2
        exact S1.env.ap i m xs us a hne e f1 ea f2
      · rw [eb, without_ne nb, f4] at hfo
        cases hfo
    have self : ∀ {t : Option V}, (σ.set i (some (V.ref fo)))[i]? = some t → t = some (.ref fo) := fun {t} f => by
      have hil : i < σ.length := by
        have := (List.getElem?_eq_some_iff.mp f).1
        rw [List.length_set] at this
        exact this
      rw [List.getElem?_set_self hil] at f
      exact (Option.some.inj f).symm
    by_cases q1 : i = j
    · subst q1
      have eb : b = fo := V.ref.inj (Option.some.inj (self e3))
      subst eb
      rw [List.getElem?_set_ne nn] at e2 e4
      exact fresh j' us' nn e2 e4
    · by_cases q2 : i = j'
      · subst q2
        have eb : b = fo := V.ref.inj (Option.some.inj (self e4))
        subst eb
        rw [List.getElem?_set_ne q1] at e1 e3
        exact fresh j us q1 e1 e3
      · rw [List.getElem?_set_ne q1] at e1 e3
        rw [List.getElem?_set_ne q2] at e2 e4
        exact S1.env.ap j j' us us' b nn e1 e2 e3 e4
  · by_cases q1 : i = j
    · subst q1
      have hil : i < σ.length := by
        have := (List.getElem?_eq_some_iff.mp e2).1
        rw [List.length_set] at this
        exact this
      rw [List.getElem?_set_self hil] at e2
      have eb : fo = b := V.ref.inj (Option.some.inj (Option.some.inj e2))
      rw [← eb]
      exact hfo0
    · rw [List.getElem?_set_ne q1] at e1 e2
      exact S1.fr j us b e1 e2
end
/-! ### a new list made while one's own is looked at -/
mutual
/-- no list within -/
def noL : PyData → Bool
  | .list _ => false
  | .tuple xs => noLs xs
  | .dict _ => false
  | _ => true
def noLs : List PyData → Bool
  | [] => true
  | x :: r => noL x && noLs r
end
mutual
theorem dp_without {K : PySem.W.Frag} {H : Hp} {a : Addr} {vs : List V} (ha : H a = some (.lst vs)) : ∀ (d : PyData) (v : V), noL d = true → Dp K H v d → Dp K (without H a) v d
  | .none, _, _, h => by cases h; exact .non
  | .bool b, _, _, h => by cases h; exact .bl b
  | .int i, _, _, h => by cases h; exact .int i
  | .str x, _, _, h => by cases h; exact .str x
  | .list ds, _, n, _ => by
    unfold noL at n
    cases n
  | .tuple ds, _, n, h => by
    unfold noL at n
    cases h with
    | @tup b us _ h1 h2 =>
      refine .tup ?_ (dpa_without ha ds _ n h2)
      rcases h1 with (h1 | ⟨o, h1⟩) | h1
      · exact .inl (.inl (by rw [without_ne (fun q => by rw [q, ha] at h1; cases h1)]; exact h1))
      · exact .inl (.inr ⟨o, by rw [without_ne (fun q => by rw [q, ha] at h1; cases h1)]; exact h1⟩)
      · exact .inr h1
  | .dict _, _, _, h => by cases h
theorem dpa_without {K : PySem.W.Frag} {H : Hp} {a : Addr} {vs : List V} (ha : H a = some (.lst vs)) : ∀ (ds : List PyData) (us : List V), noLs ds = true → DpAll K H us ds → DpAll K (without H a) us ds
  | [], _, _, h => by cases h; exact .nil
  | d :: ds, _, n, h => by
    unfold noLs at n
    rw [Bool.and_eq_true] at n
    cases h with
    | cons h1 h2 => exact .cons (dp_without ha d _ n.1 h1) (dpa_without ha ds _ n.2 h2)
end
section
variable {X : Cx} {tb : List Addr} {ds : List Sl} {c : Expr}
theorem od_peek (i : Nat) {xs ys : List PyData} (h : POd' X tb c (ds.set i (.dat (.list xs))) ys) (hn : noLs ys = true) (e : ds[i]? = some (.own xs) := by rfl) : POd' X tb c ds ys := by
  obtain ⟨t, p, q⟩ := h
  refine ⟨t, p, fun Hd H σ E Q z => ?_⟩
  obtain ⟨A, vs, ea, hl, hd, E2⟩ := E.freeze e
  exact q _ H σ E2 Q fun fo ws Hd' H' g hf hfn hfl hfd => z fo ws _ H' (Gr.unpeek hd g) hf (by show (if fo = A then none else Hd' fo) = none; split <;> first | rfl | exact hfn) hfl (dpa_without (g.d A _ upd_same) ys ws hn hfd)
/-- .. and data without lists -/
theorem ed_peekT (i : Nat) {xs : List PyData} {d : PyData} (h : PEd X tb c (ds.set i (.dat (.list xs))) d) (hn : noL d = true) (e : ds[i]? = some (.own xs) := by rfl) : PEd X tb c ds d := by
  obtain ⟨t, p, q⟩ := h
  refine ⟨t, p, fun Hd H σ E Q z => ?_⟩
  obtain ⟨A, vs, ea, hl, hd, E2⟩ := E.freeze e
  exact q _ H σ E2 Q fun v Hd' H' g dv => z v _ H' (Gr.unpeek hd g) (dp_without (g.d A _ upd_same) d v hn dv)
end
end DL
/-! DL38: lists put together, nobody else's. -/
namespace DL
open PySem PySem.Spec PyProof.Rows L2
section
variable {X : Cx} {tb : List Addr} {ds : List Sl} {a b : Expr} {pos : Pos}
theorem od_cat {xs ys : List PyData} (ha : PEd X tb a ds (.list xs)) (hb : PEd X tb b ds (.list ys)) (h : xs.length + ys.length ≤ 16000000) : POd' X tb (.BinOp a .Add b pos) ds (xs ++ ys) := by
  obtain ⟨t1, p1, q1⟩ := ha
  obtain ⟨t2, p2, q2⟩ := hb
  refine ⟨_, pe_op op_catS p1 p2, fun Hd H σ E Q z => q1 Hd H σ E _ fun x Hd1 H1 g1 dx => q2 Hd1 H1 σ (E.up g1) _ fun y Hd2 H2 g2 dy => ?_⟩
  have dx2 := Dp.up dx g2.d
  cases dx2 with
  | @lst A us _ h1 h2 =>
    cases dy with
    | @lst B ws _ k1 k2 =>
      refine ⟨A, B, us, ws, rfl, rfl, sl_sub g2.h.s h1, sl_sub g2.h.s k1, by rw [dpa_len h2, dpa_len k2]; exact Nat.le_trans h (by decide), fun p hp => ?_⟩
      have g := (g1.trans g2).trans (Gr.newOut (o := .lst (us ++ ws)) g2.h hp)
      exact z p _ _ _ g ((g1.trans g2).e.n p hp) (none_of_dh g2.h hp) upd_same (dpa_app h2 k2)
end
end DL
/-! DL39: comprehensions over any target. -/
namespace DL
open PySem PySem.Spec PyProof.Rows L2
/-- a target that takes an item -/
structure Tg (K : PySem.W.Frag) (tb : List Addr) (g : TG) (is : List Nat) (ds : List Sl) (d : PyData) (ds' : List Sl) : Prop where
  run : ∀ (Hd H : Hp) (σ : L2.St) (v : V), Env K tb Hd H σ ds → Dp K Hd v d → ∀ Q : L2.St → Hp → Prop, (∀ σ', wipe σ' is = wipe σ is → Env K tb Hd H σ' ds' → Q σ' H) → g v (wipe σ is) H Q
theorem Env.wipe1 {K : PySem.W.Frag} {tb : List Addr} {Hd H : Hp} {σ : L2.St} {ds : List Sl} (E' : Env K tb Hd H σ ds) (j : Nat) : Env K tb Hd H (σ.set j none) (ds.set j .no) := by
  have nj : ∀ (m : Nat) (us : List PyData), (ds.set j .no)[m]? = some (.own us) → j ≠ m := fun m us e q => by
    subst q
    have hj : j < ds.length := by
      have := (List.getElem?_eq_some_iff.mp e).1
      rw [List.length_set] at this
      exact this
    rw [List.getElem?_set_self hj] at e
    cases e
  refine ⟨by rw [List.length_set, List.length_set]; exact E'.len, E'.dh, E'.tb, fun k t e => ?_, fun k l xs zs a n e1 e2 e3 e4 => ?_⟩
  · by_cases q : j = k
    · subst q
      have hj : j < ds.length := by
        have := (List.getElem?_eq_some_iff.mp e).1
        rw [List.length_set] at this
        exact this
      rw [List.getElem?_set_self hj] at e
      cases e
      exact ⟨none, List.getElem?_set_self (by rw [E'.len]; exact hj), trivial⟩
    · rw [List.getElem?_set_ne q] at e
      obtain ⟨oo, k1, k2⟩ := E'.sl k t e
      exact ⟨oo, by rw [List.getElem?_set_ne q]; exact k1, k2⟩
  · have n1 := nj k xs e1
    have n2 := nj l zs e2
    rw [List.getElem?_set_ne n1] at e1 e3
    rw [List.getElem?_set_ne n2] at e2 e4
    exact E'.ap k l xs zs a n e1 e2 e3 e4
theorem tgt_name {K : PySem.W.Frag} {tb : List Addr} {ds : List Sl} {d : PyData} (j : Nat) : Tg K tb (gName j) [j] ds d (ds.set j (.dat d)) := ⟨fun Hd H σ v E dv Q q => by
  refine q ((wipe σ [j]).set j (some v)) ?_ ?_
  · show List.set (List.set (List.set σ j none) j (some v)) j none = List.set σ j none
    rw [List.set_set, List.set_set]
  · have := (E.wipe1 j).set (i := j) (s := .dat d) dv fun _ z => nomatch z
    have e : (ds.set j Sl.no).set j (.dat d) = ds.set j (.dat d) := List.set_set ..
    rw [e] at this
    exact this⟩
theorem wipe2 {σ : L2.St} {i j : Nat} {a b : Option V} (h : i ≠ j) : wipe (((wipe σ [i, j]).set i a).set j b) [i, j] = wipe σ [i, j] := by
  show List.set (List.set (List.set (List.set (List.set (List.set σ j none) i none) i a) j b) j none) i none = List.set (List.set σ j none) i none
  simp only [List.set_set]
  rw [List.set_comm a none h]
  simp only [List.set_set]
/-- a, b : a pair -/
def gPair (K : PySem.W.Frag) (i j : Nat) : TG := fun v σ H Q => ∃ (A : Addr) (a b : V), v = .ref A ∧ SqT K H A [a, b] ∧ Q ((σ.set i (some a)).set j (some b)) H
theorem pg_pair {X : Cx} {x y : Str} {px py tp : Pos} {kk i j : Nat} (hc : X.calm = true) (hN : X.N.Nodup) (hi : X.N[i]? = some x := by rfl) (hj : X.N[j]? = some y := by rfl) (hx : locB X.env.scope x = true := by rfl) (hy : locB X.env.scope y = true := by rfl)
    (hfx : X.fn x = true ∨ X.env.scope.names.lookup x = some .local := by first | exact .inl rfl | exact .inr rfl) (hfy : X.fn y = true ∨ X.env.scope.names.lookup y = some .local := by first | exact .inl rfl | exact .inr rfl)
    (h1 : (assignEach [.Name x px, .Name y py] X.env).length = 2 := by rfl) (h2 : (assignEach [.Name x px, .Name y py] X.env).findIdx? (·.1) = none := by rfl)
    (h3 : (assignEach [.Name x px, .Name y py] X.env).map (·.2) = assign (.Name x px) X.env :: (assignEach [.Name y py] X.env).map (·.2) := by rfl) (h4 : (assignEach [.Name y py] X.env).map (·.2) = assign (.Name y py) X.env :: (assignEach [] X.env).map (·.2) := by rfl) :
    PG X (.Tuple [.Name x px, .Name y py] kk tp) (gPair X.K i j) := by
  have p := pg_tup (k := kk) (pos := tp) hc (pgs_cons (pg_name hN hi (locB_ok hx) hfx) (pgs_cons (pg_name hN hj (locB_ok hy) hfy) pgs_nil h4) h3) h1 h2
  refine ⟨fun pins s σ H x u Q I r h => ?_⟩
  obtain ⟨A, a, b, rfl, h, q⟩ := h
  exact p.run pins s σ H _ u Q I r ⟨A, [a, b], rfl, h, rfl, _, _, rfl, _, _, rfl, rfl, q⟩
theorem tgt_two {K : PySem.W.Frag} {tb : List Addr} {ds : List Sl} {d1 d2 : PyData} (i j : Nat) (hij : i ≠ j := by decide) : Tg K tb (gPair K i j) [i, j] ds (.tuple [d1, d2]) ((ds.set i (.dat d1)).set j (.dat d2)) := ⟨fun Hd H σ v E dv Q q => by
  cases dv with
  | @tup A vs _ k1 k2 =>
    cases k2 with
    | cons m1 m2 =>
      cases m2 with
      | @cons b bs d2 ds2 m3 m4 =>
        cases m4
        refine ⟨A, _, _, rfl, st_sub E.dh.s k1, q _ (wipe2 hij) ?_⟩
        have E1 := (((E.wipe1 j).wipe1 i).set (i := i) (s := .dat d1) m1 fun _ z => nomatch z).set (i := j) (s := .dat d2) m3 fun _ z => nomatch z
        have eds : ((((ds.set j .no).set i .no).set i (.dat d1)).set j (.dat d2)) = (ds.set i (.dat d1)).set j (.dat d2) := by
          simp only [List.set_set]
          rw [List.set_comm _ _ (Ne.symm hij), List.set_set]
        rw [eds] at E1
        exact E1⟩
section
variable {X : Cx} {tb : List Addr} {W : WX'} {ds : List Sl} {iter elt tg : Expr} {pos pos' px py spos : Pos} {x y : Str}
theorem ev_lcG {α : Type} {scope : Scope} {ifs : List Expr} {wi : TI} {g : TG} {is : List Nat} (ys : List α) (enc F : α → PyData) (ds' : α → List Sl) (p : α → Bool) (hlen : ys.length ≤ 1000000) (q1 : ∀ (Hd H : Hp) (σ : L2.St), Env X.K tb Hd H σ ds → ∀ R : It → Hp → Prop, (∀ J Hd1 H1, Gr Hd H Hd1 H1 → Walk X.K J Hd1 (ys.map enc) → R J H1) → wi σ H R)
    (hb : ∀ y ∈ ys, Tg X.K tb g is ds (enc y) (ds' y))
    (ht : ∀ y ∈ ys, ∀ (s : Shared) (H : Hp) (C : Addr) (cl : List (Str × Addr)) (fp : List Addr), ∃ t, PTs (X.blk s H scope (compEnvC scope cl C X.env) fp) ifs t ∧ EvT X.K tb t (ds' y) (p y))
    (he : ∀ y ∈ ys, p y = true → ∀ (s : Shared) (H : Hp) (C : Addr) (cl : List (Str × Addr)) (fp : List Addr), PEd (X.blk s H scope (compEnvC scope cl C X.env) fp) tb elt (ds' y) (F y)) :
    EvOw X.K tb (tLc wi g (lcT X scope ifs) (lcE X scope elt) is) ds ((ys.filter p).map F) := by
  intro Hd H σ E Q z
  refine q1 Hd H σ E _ fun J Hd1 H1 g1 wk D hD => ?_
  have hd0 : Hd1 D = none := none_of_dh g1.h hD
  refine ⟨fun i mm H' => mm = ys.length - i ∧ i ≤ ys.length ∧ ∃ Hd' vs, Gr Hd1 H1 Hd' H' ∧ Hd' D = none ∧ H' D = some (.lst vs) ∧ DpAll X.K Hd' vs (((ys.take i).filter p).map F), ⟨ys.length, by simp, Nat.zero_le _, Hd1, [], Gr.newOut g1.h hD, hd0, upd_same, .nil⟩, ?_⟩
  rintro i mm H' ⟨rfl, him, Hd', vs, g', d0, hl, hv⟩
  have E' : Env X.K tb Hd' H' σ ds := (E.up g1).up g'
  by_cases hlt : i < ys.length
  · have hil : i < (ys.map enc).length := by rw [List.length_map]; exact hlt
    have hy : ys[i] ∈ ys := List.getElem_mem hlt
    refine .inr ⟨wk.go i Hd' H' g'.d g'.h hil, fun H2 => i + 1 ≤ ys.length ∧ ∃ Hd2 vs, Gr Hd1 H1 Hd2 H2 ∧ Hd2 D = none ∧ H2 D = some (.lst vs) ∧ DpAll X.K Hd2 vs (((ys.take (i + 1)).filter p).map F), fun H2 z2 => ⟨ys.length - (i + 1), by omega, rfl, z2⟩, fun v H2 y => ?_⟩
    obtain ⟨Hd2, dd, e1, g2, dv⟩ := wk.yl i Hd' H' v H2 g'.d g'.h hil y
    have ed : dd = enc ys[i] := by
      rw [List.getElem?_map, List.getElem?_eq_getElem hlt] at e1
      exact (Option.some.inj e1).symm
    subst ed
    refine (hb ys[i] hy).run Hd2 H2 σ v (E'.up g2) dv _ fun σ' hw E2 => ⟨hw, fun s Hx C cl fp => ?_⟩
    obtain ⟨t, t1, t2⟩ := ht ys[i] hy s Hx C cl fp
    refine ⟨t, t1, t2 Hd2 H2 _ E2 _ fun Hd3 H3 g3 => ?_⟩
    have tk : ys.take (i + 1) = ys.take i ++ [ys[i]] := by rw [List.take_add_one, List.getElem?_eq_getElem hlt] <;> rfl
    have g13 : Gr Hd1 H1 Hd3 H3 := (g'.trans g2).trans g3
    have d3 : Hd3 D = none := (g2.trans g3).f D d0 (by rw [hl]; exact fun z => nomatch z)
    have l3 : H3 D = some (.lst vs) := (g2.trans g3).e.k D _ hl fun _ z => nomatch z
    cases hp : p ys[i] with
    | true =>
      refine iteT fun s Hx C cl fp => (he ys[i] hy hp s Hx C cl fp).can Hd3 H3 _ (E2.up g3) _ fun w Hd4 H4 g4 dw => ?_
      have d4 : Hd4 D = none := g4.f D d3 (by rw [l3]; exact fun z => nomatch z)
      have l4 : H4 D = some (.lst vs) := g4.e.k D _ l3 fun _ z => nomatch z
      have lv : vs.length ≤ ys.length := by
        rw [dpa_len hv, List.length_map]
        exact Nat.le_trans (List.length_filter_le _ _) (by rw [List.length_take]; exact Nat.min_le_right _ _)
      refine ⟨vs, l4, Nat.lt_of_le_of_lt (Nat.le_trans lv hlen) (by decide), hlt, Hd4, vs ++ [w], ?_, d4, upd_same, ?_⟩
      · have G := g13.trans g4
        exact ⟨G.d, ⟨fun b o q => by rw [upd_ne (ne_of_none q d4)]; exact G.h.s b o q, G.h.nt⟩, ⟨fun b o q n => by rw [upd_ne (ne_of_none q hD)]; exact G.e.k b o q n, fun P t => by
          obtain ⟨ps, e1, e2⟩ := G.e.t P t
          exact ⟨ps, by rw [upd_ne (not_tab l4 ⟨ps, e1, e2⟩)]; exact e1, e2⟩, fun b q => by
          by_cases q1 : b = D
          · rw [q1]; exact hD
          · rw [upd_ne q1] at q
            exact G.e.n b q⟩, G.f⟩
      · rw [tk, List.filter_append, List.map_append, List.filter_cons, if_pos hp]
        exact dpa_app (DpAll.up hv ((g2.trans g3).trans g4).d) (.cons dw .nil)
    | false =>
      refine iteF ⟨hlt, Hd3, vs, g13, d3, l3, ?_⟩
      rw [tk, List.filter_append, List.map_append, List.filter_cons, if_neg (by rw [hp]; exact Bool.false_ne_true)]
      show DpAll X.K Hd3 vs (_ ++ [])
      rw [List.append_nil]
      exact DpAll.up hv (g2.trans g3).d
  · have e : i = ys.length := by omega
    subst e
    refine .inl ⟨wk.st _ Hd' H' g'.d g'.h (by rw [List.length_map]; exact Nat.le_refl _), ?_⟩
    rw [List.take_length] at hv
    exact z D vs Hd' H' (g1.trans g') (g1.e.n D hD) d0 hl hv
/-- [e for tg in it if ..] -/
theorem od_lcG {α : Type} {scope : Scope} {ifs : List Expr} {g : TG} {own : List (Str × Nat)} (ys : List α) (enc F : α → PyData) (ds' : α → List Sl) (p : α → Bool) (hc : X.calm = true) (hN : X.N.Nodup) (hi : PId X tb tg iter ds (ys.map enc)) (hlen : ys.length ≤ 1000000) (ok : BlkOk X.N X.env.scope scope own)
    (hg : ∀ (s : Shared) (H : Hp) (C : Addr) (cl : List (Str × Addr)) (fp : List Addr), PG (X.blk s H scope (compEnvC scope cl C X.env) fp) tg g)
    (hb : ∀ y ∈ ys, Tg X.K tb g (own.map (·.2)) ds (enc y) (ds' y))
    (ht : ∀ y ∈ ys, ∀ (s : Shared) (H : Hp) (C : Addr) (cl : List (Str × Addr)) (fp : List Addr), ∃ t, PTs (X.blk s H scope (compEnvC scope cl C X.env) fp) ifs t ∧ EvT X.K tb t (ds' y) (p y))
    (he : ∀ y ∈ ys, p y = true → ∀ (s : Shared) (H : Hp) (C : Addr) (cl : List (Str × Addr)) (fp : List Addr), PEd (X.blk s H scope (compEnvC scope cl C X.env) fp) tb elt (ds' y) (F y))
    (hs : ∀ x, foldedSetIterable iter X.env x = pure x := by intro _; rfl) : POd' X tb (.ListComp elt [⟨tg, iter, ifs, 0⟩] scope pos) ds ((ys.filter p).map F) := by
  obtain ⟨wi, p1, q1⟩ := hi
  exact ⟨_, pe_lc (own := own) (g := g) (tt := lcT X scope ifs) (te := lcE X scope elt) hc hN p1 ok hg
    (fun s H C cl fp => ⟨fun pins s' σ H' Q I h => let ⟨t, a1, a2⟩ := h s H C cl fp; a1.run pins s' σ H' Q I a2⟩) (fun s H C cl fp => ⟨fun pins s' σ H' Q I h => pe_can.run pins s' σ H' Q I (h s H C cl fp)⟩) hs,
    ev_lcG (elt := elt) ys enc F ds' p hlen q1 hb ht he⟩
theorem od_lcGY {α : Type} {scope : Scope} {g : TG} {own : List (Str × Nat)} (ys : List α) (enc F : α → PyData) (ds' : α → List Sl) (hc : X.calm = true) (hN : X.N.Nodup) (hi : PId X tb tg iter ds (ys.map enc)) (hlen : ys.length ≤ 1000000) (ok : BlkOk X.N X.env.scope scope own)
    (hg : ∀ (s : Shared) (H : Hp) (C : Addr) (cl : List (Str × Addr)) (fp : List Addr), PG (X.blk s H scope (compEnvC scope cl C X.env) fp) tg g)
    (hb : ∀ y ∈ ys, Tg X.K tb g (own.map (·.2)) ds (enc y) (ds' y))
    (he : ∀ y ∈ ys, ∀ (s : Shared) (H : Hp) (C : Addr) (cl : List (Str × Addr)) (fp : List Addr), PEd (X.blk s H scope (compEnvC scope cl C X.env) fp) tb elt (ds' y) (F y))
    (hs : ∀ x, foldedSetIterable iter X.env x = pure x := by intro _; rfl) : POd' X tb (.ListComp elt [⟨tg, iter, [], 0⟩] scope pos) ds (ys.map F) := by
  have z := od_lcG (pos := pos) ys enc F ds' (fun _ => true) hc hN hi hlen ok hg hb (fun y hy s H C cl fp => ⟨tYes, pts_nil, fun Hd H σ E Q z => z Hd H (Gr.refl E.dh)⟩) (fun y hy _ => he y hy) hs
  rwa [List.filter_eq_self.mpr fun _ _ => rfl] at z
/-- y = [e for tg in it if ..], y a local name, its list one's own -/
theorem sd_setLcGO {α : Type} {scope : Scope} {ifs : List Expr} {g : TG} {own : List (Str × Nat)} (i : Nat) (ys : List α) (enc F : α → PyData) (ds' : α → List Sl) (p : α → Bool) (hc : X.calm = true) (hN : X.N.Nodup) (hi : PId X tb tg iter ds (ys.map enc)) (hlen : ys.length ≤ 1000000) (ok : BlkOk X.N X.env.scope scope own)
    (hg : ∀ (s : Shared) (H : Hp) (C : Addr) (cl : List (Str × Addr)) (fp : List Addr), PG (X.blk s H scope (compEnvC scope cl C X.env) fp) tg g)
    (hb : ∀ y ∈ ys, Tg X.K tb g (own.map (·.2)) ds (enc y) (ds' y))
    (ht : ∀ y ∈ ys, ∀ (s : Shared) (H : Hp) (C : Addr) (cl : List (Str × Addr)) (fp : List Addr), ∃ t, PTs (X.blk s H scope (compEnvC scope cl C X.env) fp) ifs t ∧ EvT X.K tb t (ds' y) (p y))
    (he : ∀ y ∈ ys, p y = true → ∀ (s : Shared) (H : Hp) (C : Addr) (cl : List (Str × Addr)) (fp : List Addr), PEd (X.blk s H scope (compEnvC scope cl C X.env) fp) tb elt (ds' y) (F y))
    (hy : X.N[i]? = some y := by rfl) (hk : X.env.scope.kind = .function := by rfl) (hyl : X.env.scope.names.lookup y = some .local := by rfl) (hl : (py.line == pos.line) = true := by rfl) (ha : (scope.names.any fun (n, k) => n == y && (k == .local || k == .cell)) = false := by decide +kernel)
    (hs : ∀ x, foldedSetIterable iter X.env x = pure x := by intro _; rfl) : PSd X tb W (.Assign [.Name y py] (.ListComp elt [⟨tg, iter, ifs, 0⟩] scope pos) spos) ds (.nx (ds.set i (.own ((ys.filter p).map F)))) := by
  obtain ⟨wi, p1, q1⟩ := hi
  refine ⟨_, ps_setLc (own := own) (g := g) (tt := lcT X scope ifs) (te := lcE X scope elt) hc hN hy hyl (sw_true hk hyl hl ha) p1 ok hg
    (fun s H C cl fp => ⟨fun pins s' σ H' Q I h => let ⟨t, a1, a2⟩ := h s H C cl fp; a1.run pins s' σ H' Q I a2⟩) (fun s H C cl fp => ⟨fun pins s' σ H' Q I h => pe_can.run pins s' σ H' Q I (h s H C cl fp)⟩) hs, fun Hd0 H0 Hd H σ D S z => ?_⟩
  exact ev_lcG (elt := elt) ys enc F ds' p hlen q1 hb ht he Hd H σ S.env _ fun fo ws Hd' H' g h1 h2 h3 h4 => z _ Hd' H' (S.getOwn i g h1 h2 h3 h4) g.d
theorem sd_setLcG {α : Type} {scope : Scope} {ifs : List Expr} {g : TG} {own : List (Str × Nat)} (i : Nat) (ys : List α) (enc F : α → PyData) (ds' : α → List Sl) (p : α → Bool) (hc : X.calm = true) (hN : X.N.Nodup) (hi : PId X tb tg iter ds (ys.map enc)) (hlen : ys.length ≤ 1000000) (ok : BlkOk X.N X.env.scope scope own)
    (hg : ∀ (s : Shared) (H : Hp) (C : Addr) (cl : List (Str × Addr)) (fp : List Addr), PG (X.blk s H scope (compEnvC scope cl C X.env) fp) tg g)
    (hb : ∀ y ∈ ys, Tg X.K tb g (own.map (·.2)) ds (enc y) (ds' y))
    (ht : ∀ y ∈ ys, ∀ (s : Shared) (H : Hp) (C : Addr) (cl : List (Str × Addr)) (fp : List Addr), ∃ t, PTs (X.blk s H scope (compEnvC scope cl C X.env) fp) ifs t ∧ EvT X.K tb t (ds' y) (p y))
    (he : ∀ y ∈ ys, p y = true → ∀ (s : Shared) (H : Hp) (C : Addr) (cl : List (Str × Addr)) (fp : List Addr), PEd (X.blk s H scope (compEnvC scope cl C X.env) fp) tb elt (ds' y) (F y))
    (hil : i < ds.length) (hy : X.N[i]? = some y := by rfl) (hk : X.env.scope.kind = .function := by rfl) (hyl : X.env.scope.names.lookup y = some .local := by rfl) (hl : (py.line == pos.line) = true := by rfl) (ha : (scope.names.any fun (n, k) => n == y && (k == .local || k == .cell)) = false := by decide +kernel)
    (hs : ∀ x, foldedSetIterable iter X.env x = pure x := by intro _; rfl) : PSd X tb W (.Assign [.Name y py] (.ListComp elt [⟨tg, iter, ifs, 0⟩] scope pos) spos) ds (.nx (ds.set i (.dat (.list ((ys.filter p).map F))))) := by
  obtain ⟨t, p1, q1⟩ := sd_setLcGO (W := W) (spos := spos) (pos := pos) (py := py) i ys enc F ds' p hc hN hi hlen ok hg hb ht he hy hk hyl hl ha hs
  refine ⟨t, p1, fun Hd0 H0 Hd H σ D S z => q1 Hd0 H0 Hd H σ D S fun σ' Hd' H' S' s' => ?_⟩
  obtain ⟨Hd2, s2, S2⟩ := S'.freeze (i := i) (List.getElem?_set_self hil)
  rw [List.set_set] at S2
  exact z σ' Hd2 H' S2 (s'.trans s2)
end
end DL
/-! DL40: a range that goes down. -/
namespace DL
open PySem PySem.Spec PyProof.Rows L2
/-- lo, lo - 1, .. (n of them) -/
def dwnD (lo : Int) (n : Nat) : List PyData := (List.range n).map fun (i : Nat) => .int (lo - (i : Int))
theorem dwn_len (lo : Int) (n : Nat) : (dwnD lo n).length = n := by unfold dwnD; rw [List.length_map, List.length_range]
theorem dwn_at {lo : Int} {n i : Nat} {d : PyData} (e : (dwnD lo n)[i]? = some d) : i < n ∧ d = .int (lo - (i : Int)) := by
  unfold dwnD at e
  rw [List.getElem?_map] at e
  cases q : (List.range n)[i]? with
  | none => rw [q] at e; cases e
  | some m =>
    rw [q] at e
    obtain ⟨h1, h2⟩ := List.getElem?_eq_some_iff.mp q
    rw [List.getElem_range] at h2
    rw [List.length_range] at h1
    subst h2
    exact ⟨h1, (Option.some.inj e).symm⟩
theorem walk_dwn {K : PySem.W.Frag} {Hd1 : Hp} (lo : Int) (n : Nat) : Walk K (Itc lo (-1) n) Hd1 (dwnD lo n) where
  go := fun i _ _ _ _ hi => by
    rw [dwn_len] at hi
    exact hi
  yl := fun i Hd H x H' _ D hi y => by
    obtain ⟨rfl, rfl⟩ := y
    rw [dwn_len] at hi
    refine ⟨Hd, .int (lo - i), ?_, Gr.refl D, ?_⟩
    · unfold dwnD
      rw [List.getElem?_map, List.getElem?_range hi] <;> rfl
    · have e : lo + (i : Int) * (-1) = lo - i := by omega
      rw [e]
      exact .int _
  st := fun i _ _ _ _ hi => by
    rw [dwn_len] at hi
    exact hi
section
variable {X : Cx} {tb : List Addr} {ds : List Sl} {tg a b c : Expr} {pos p : Pos}
theorem id_rngDown {i j : Int} (hm : X.mg "range" = none) (h : PEd X tb a ds (.int i)) (h' : PEd X tb b ds (.int j)) (h'' : PEd X tb c ds (.int (-1))) (hi : -(2 ^ 62) ≤ i ∧ i < 2 ^ 62 ∧ -(2 ^ 62) ≤ j ∧ j < 2 ^ 62) (hg : Gl X "range" := by rfl) (hs : starEach [a, b, c] X.env = (false, eval a X.env) :: starEach [b, c] X.env := by rfl) (hs2 : starEach [b, c] X.env = (false, eval b X.env) :: starEach [c] X.env := by rfl) (hs3 : starEach [c] X.env = [(false, eval c X.env)] := by rfl)
    (hpl : (backTo pos (starEach [b, c] X.env)).any (·.1) = false := by rfl) : PId X tb tg (.Call (.Name "range" p) [a, b, c] [] pos) ds (dwnD i (i - j).toNat) :=
  let ⟨_, p1, q1⟩ := ad_cons h (ad_cons h' (ad_cons h'' ad_nil hs3) hs2) hs; ⟨_, pi_range3 hg hm p1 hs hpl, fun Hd H σ E R z => q1 Hd H σ E _ fun vs Hd1 H1 g dv => by
    cases dv with
    | cons h1 h2 =>
      cases h2 with
      | cons h3 h4 =>
        cases h4 with
        | cons h5 h6 =>
          cases h6
          cases h1
          cases h3
          cases h5
          exact ⟨i, j, -1, _, rfl, RgC.neg hi.1 hi.2.1 hi.2.2.1 hi.2.2.2, z _ Hd1 H1 g (walk_dwn i _)⟩⟩
end
end DL
/-! DL41: a new list as data; a shelf that is looked at from now on. -/
namespace DL
open PySem PySem.Spec PyProof.Rows L2
theorem gr_frzO {Hd H Hd' H' : Hp} {fo : Addr} {ws : List V} (g : Gr Hd H Hd' H') (h0 : H fo = none) (hn : Hd' fo = none) (hl : H' fo = some (.lst ws)) : Gr Hd H (upd Hd' fo (.lst ws)) H' where
  d := fun a o e => by
    have := g.d a o e
    rw [upd_ne (ne_of_none this hn)]
    exact this
  h := ⟨fun a o e => by
    by_cases q : a = fo
    · rw [q, upd_same] at e
      cases e
      rw [q]
      exact hl
    · rw [upd_ne q] at e
      exact g.h.s a o e, fun a ps e => by
    by_cases q : a = fo
    · rw [q, upd_same] at e
      cases e
    · rw [upd_ne q] at e
      exact g.h.nt a ps e⟩
  e := g.e
  f := fun a e n => by
    have q : a ≠ fo := fun z => n (by rw [z]; exact h0)
    rw [upd_ne q]
    exact g.f a e n
theorem sub_updO {Hd : Hp} {fo : Addr} {o : HO} (hn : Hd fo = none) : Sub Hd (upd Hd fo o) := fun a u e => by
  rw [upd_ne (ne_of_none e hn)]
  exact e
def asD (R : List PyData → List PyData → Prop) (ds : List PyData) (d : PyData) : Prop := ∃ xs, R ds xs ∧ d = .list xs
theorem fno_data {P : Program} {w : World} {K : PySem.W.Frag} {mg : Str → Option Value} {base : Heap} {CX : CXT} {k n : Nat} {f : Addr} {fd : FuncData} {ps : List Str} {tb : List Addr} {R : List PyData → List PyData → Prop} (F : FnOk P w K mg base CX k f fd ps (spO K tb n R)) : FnOk P w K mg base CX k f fd ps (spD K tb n (asD R)) :=
  F.imp fun vs H Q E h => by
    obtain ⟨Hd, ds, d, hl, D, ht, dv, ⟨xs, hR, rfl⟩, q⟩ := h
    exact ⟨Hd, ds, xs, hl, D, ht, dv, hR, fun fo ws Hd' H' g t hf hn hl hd => q (.ref fo) _ H' (gr_frzO g hf hn hl) t (.lst (.of upd_same) (DpAll.up hd (sub_updO hn)))⟩
theorem FnO.dat {P : Program} {w : World} {K : PySem.W.Frag} {mg : Str → Option Value} {base : Heap} {tb : List Addr} {x : Str} {ps : List Str} {k : Nat} {R : List PyData → List PyData → Prop} (h : FnO P w K mg base tb x ps k R) : FnG P w K mg base tb x ps k (asD R) :=
  let ⟨f, fd, F, a, b, c⟩ := h.ex; ⟨f, fd, fno_data F, a, b, c⟩
end DL
namespace SHLF
open PySem PySem.Spec PyProof.Rows L2 DL LM RM PT
section
variable {K : PySem.W.Frag} {tb : List Addr} {C sh t r : Addr} {Hd0 H0 : Hp} {m : Nat} {Hd H : Hp} {xs : List S}
/-- all that is new since the entry is data from now on -/
theorem Shx.frozen (h : Shx K tb C sh t r Hd0 H0 m Hd H xs) : Gr Hd0 H0 (frz Hd H0 H) H ∧ Sub Hd (frz Hd H0 H) ∧ ShF K C sh (frz Hd H0 H) (frz Hd H0 H) xs := by
  obtain ⟨s, g⟩ := gr_frzAll h.gr
  refine ⟨g, s, ?_⟩
  obtain ⟨dx, h1⟩ := h.ob
  obtain ⟨vs, h2, h3⟩ := h.th
  obtain ⟨kvs, h4, _, R, h6, _⟩ := h.rows
  refine ⟨dx, t, r, vs, kvs, ?_, ?_, DpAll.up h3 s, ?_, ⟨fun k v e => ?_, R.no⟩⟩
  · rw [frz_new h.fs]
    exact noTab_at h1 fun _ z => nomatch z
  · rw [frz_new h.ft]
    exact noTab_at h2 fun _ z => nomatch z
  · rw [frz_new h.fr]
    exact noTab_at h4 fun _ z => nomatch z
  · obtain ⟨l, rfl, e2⟩ := R.there k v e
    refine ⟨l, rfl, ?_⟩
    rw [frz_new (h6 k l e).2.2]
    exact noTab_at e2 fun _ z => nomatch z
end
theorem ShF.toH {K : PySem.W.Frag} {C sh : Addr} {Hd H : Hp} {xs : List S} (D : DH Hd H) (h : ShF K C sh Hd Hd xs) : ShF K C sh Hd H xs := by
  obtain ⟨dx, t, r, vs, kvs, h1, h2, h3, h4, h5⟩ := h.ex
  exact ⟨dx, t, r, vs, kvs, D.s _ _ h1, D.s _ _ h2, h3, D.s _ _ h4, h5.keeps fun a o e _ => D.s a o e⟩
end SHLF
/-! DL42: list(zip(..)), list(enumerate(..)). -/
namespace LP
open PySem PySem.Spec PyProof.Rows
/-- an iterator at I whose items are new pairs, while at S a list is filled -/
structure Src (prog : Program) (w : World) (A : Around) (I S : Addr) (wr : List Addr) (n : Nat) (Rel : Nat → Value → Value → Prop) (St : Nat → Heap → Prop) : Prop where
  off : S ∉ wr
  frame : ∀ i h h', St i h → (∀ b o, b ≠ S → h.get? b = some o → h'.get? b = some o) → St i h'
  item : ∀ i (s : Shared) (Q : Option Value → Shared → Prop) (E : Value → Shared → Prop), i < n → St i s.heap → S < s.heap.objs.size →
    (∀ k v h' tk, Rel i k v → IsPair h' s.heap.objs.size k v → St (i + 1) h' → s.heap.objs.size < h'.objs.size → (∀ b o, b ∉ wr → s.heap.get? b = some o → h'.get? b = some o) → Q (some (.ref s.heap.objs.size)) { s with heap := h', toks := tk }) → wpAny (model prog w) A (pyNext (.ref I)) Q E s
  done : ∀ (s : Shared) (Q : Option Value → Shared → Prop) (E : Value → Shared → Prop), St n s.heap →
    (∀ h' tk, (∀ b o, b ∉ wr → s.heap.get? b = some o → h'.get? b = some o) → Q none { s with heap := h', toks := tk }) → wpAny (model prog w) A (pyNext (.ref I)) Q E s
  old : ∀ h i, St i h → ∀ b ∈ wr, ∃ o, h.get? b = some o
/-- the pairs that are out -/
structure Outs (h0 : Nat) (h : Heap) (wr : List Addr) (Rel : Nat → Value → Value → Prop) (Ts : List Addr) : Prop where
  at_ : ∀ (j : Nat) (T : Addr), Ts[j]? = some T → h0 < T ∧ T ∉ wr ∧ ∃ k v, Rel j k v ∧ IsPair h T k v
  nd : Ts.Nodup
theorem Outs.keep {h0 : Nat} {h h' : Heap} {wr : List Addr} {Rel : Nat → Value → Value → Prop} {Ts : List Addr} (x : Outs h0 h wr Rel Ts) (k : ∀ b o, h0 < b → b ∉ wr → h.get? b = some o → h'.get? b = some o) : Outs h0 h' wr Rel Ts :=
  ⟨fun j T e => let ⟨a, b, k1, v, r, p⟩ := x.at_ j T e; ⟨a, b, k1, v, r, k T _ a b p⟩, x.nd⟩
theorem Outs.lt {h0 : Nat} {h : Heap} {wr : List Addr} {Rel : Nat → Value → Value → Prop} {Ts : List Addr} (x : Outs h0 h wr Rel Ts) {T : Addr} (hT : T ∈ Ts) : T < h.objs.size := by
  obtain ⟨j, hj, e⟩ := List.getElem_of_mem hT
  obtain ⟨_, _, k, v, _, p⟩ := x.at_ j T (by rw [List.getElem?_eq_getElem hj, e])
  exact Heap.lt_size p
theorem Outs.snoc {h0 : Nat} {h : Heap} {wr : List Addr} {Rel : Nat → Value → Value → Prop} {Ts : List Addr} (x : Outs h0 h wr Rel Ts) {T : Addr} {k v : Value} (h1 : h0 < T) (h2 : T ∉ wr) (h3 : T ∉ Ts) (r : Rel Ts.length k v) (p : IsPair h T k v) : Outs h0 h wr Rel (Ts ++ [T]) := by
  refine ⟨fun j U e => ?_, List.nodup_append.mpr ⟨x.nd, List.nodup_cons.mpr ⟨by simp, List.nodup_nil⟩, fun a ha b hb => ?_⟩⟩
  · by_cases hj : j < Ts.length
    · rw [List.getElem?_append_left hj] at e
      exact x.at_ j U e
    · rw [List.getElem?_append_right (by omega)] at e
      have hj2 : j = Ts.length := by
        have := (List.getElem?_eq_some_iff.mp e).1
        simp at this
        omega
      subst hj2
      rw [Nat.sub_self] at e
      cases e
      exact ⟨h1, h2, k, v, r, p⟩
  · rw [List.mem_singleton.mp hb]
    exact fun q => h3 (by rw [← q]; exact ha)
section
variable {prog : Program} {w : World} {A : Around} {R : Result → Shared → Prop} {I S : Addr} {wr : List Addr} {n : Nat} {Rel : Nat → Value → Value → Prop} {St : Nat → Heap → Prop}
abbrev LstAt (h : Heap) (S : Addr) (acc : Array Value) (c : Nat) : Prop := h.get? S = some { cls := .type "list", dict := none, data := .seq acc c, slots := #[] }
theorem fill_loop (W : Src prog w A.in1 I S wr n Rel St) (hn : n ≤ sizeLine) (res : Value) :
    ∀ (k i : Nat) (s : Shared) (Ts : List Addr) (acc : Array Value) (c : Nat), n - i = k → i ≤ n → St i s.heap → LstAt s.heap S acc c → acc.toList = Ts.map Value.ref → Ts.length = i → Outs S s.heap wr Rel Ts →
    (∀ h' tk Ts' acc' c', (∀ b o, b ≠ S → b ∉ wr → s.heap.get? b = some o → h'.get? b = some o) → LstAt h' S acc' c' → acc'.toList = Ts'.map Value.ref → Ts'.length = n → Outs S h' wr Rel Ts' → R (.ok (.ret res)) { s with heap := h', toks := tk }) →
    codeAny (model prog w) A (.builtin "list.extend.loop" ⟨[.ref S, .ref I, res], []⟩) R s := by
  intro k
  induction k with
  | zero =>
    intro i s Ts acc c hk hi hst hS ha hl ho hR
    obtain rfl : i = n := by omega
    refine codeAny_builtin F.entry_extend_loop ?_
    rw [Around.under_plainId F.plain_extend_loop _]
    show wpAny _ A.in1 (pyNext (.ref I) >>= _) _ _ s
    refine wpAny_bind (W.done s _ _ hst fun h' tk kk => wpAny_pure ?_)
    exact hR h' tk Ts acc c (fun b o _ hb e => kk b o hb e) (kk S _ W.off hS) ha hl (ho.keep fun b o _ hb e => kk b o hb e)
  | succ k ih =>
    intro i s Ts acc c hk hi hst hS ha hl ho hR
    have lti : i < n := by omega
    refine codeAny_builtin F.entry_extend_loop ?_
    rw [Around.under_plainId F.plain_extend_loop _]
    show wpAny _ A.in1 (pyNext (.ref I) >>= _) _ _ s
    refine wpAny_bind (W.item i s _ _ lti hst (Heap.lt_size hS) fun key v h' tk rel pr st' sz kk => ?_)
    have hS1 := kk S _ W.off hS
    have hz : acc.size = i := by rw [← Array.length_toList, ha, List.length_map, hl]
    have TS : s.heap.objs.size ≠ S := Nat.ne_of_gt (Heap.lt_size hS)
    have Twr : s.heap.objs.size ∉ wr := fun hm => by
      obtain ⟨o, e⟩ := W.old _ _ hst _ hm
      exact absurd (Heap.lt_size e) (Nat.lt_irrefl _)
    show wpAny _ A.in1 (updateSeq S (·.push (.ref s.heap.objs.size)) >>= _) _ _ _
    refine wpAny_bind (wpAny_updateSeq hS1 rfl (wpAny_pure ⟨plainId_quiet F.plain_extend_loop _, ?_⟩) (by rw [hz]; omega) (by show (acc.push _).size ≤ sizeLine + 1; rw [Array.size_push, hz]; omega))
    have oth : ∀ b o, b ≠ S → h'.get? b = some o → (h'.update S (Obj.mapSeq (·.push (.ref s.heap.objs.size)))).get? b = some o := fun b o hb e => (Heap.get?_update_other _ _ (Ne.symm hb)).trans e
    refine ih (i + 1) _ (Ts ++ [s.heap.objs.size]) (acc.push (.ref s.heap.objs.size)) _ (by omega) lti (W.frame _ _ _ st' oth) (Heap.get?_update_self _ hS1 rfl) (by rw [Array.toList_push, ha, List.map_append] <;> rfl) (by rw [List.length_append, hl] <;> rfl) ?_ fun h2 tk2 Ts2 acc2 c2 k2 a1 a2 a3 a4 => ?_
    · refine Outs.snoc (ho.keep fun b o h1 h2 e => oth b o (Nat.ne_of_gt h1) (kk b o h2 e)) (Heap.lt_size hS) Twr (fun hm => Nat.lt_irrefl _ (ho.lt hm)) (by rw [hl]; exact rel) (oth _ _ TS pr)
    · exact hR h2 tk2 Ts2 acc2 c2 (fun b o h1 h2 e => k2 b o h1 h2 (oth b o h1 (kk b o h2 e))) a1 a2 a3 a4
end
section
variable {prog : Program} {w : World} {A : Around} {E : Value → Shared → Prop} {s : Shared} {z : Addr} {wr : List Addr} {n : Nat} {Rel : Nat → Value → Value → Prop} {St : Nat → Heap → Prop} {T : String}
/-- list(z), z an iterator of new pairs without a length -/
theorem call_list_src {Q : Value → Shared → Prop} (hT : ∀ h, St 0 h → ∃ o, h.get? z = some o ∧ o.cls = .type T) (hl : typeLookup (.type T) "__len__" = pure none) (hh : typeLookup (.type T) "__length_hint__" = pure none) (nl : (Value.type T == Value.type "list") = false) (nt : (Value.type T == Value.type "tuple") = false)
    (hself : ∀ (B : Around) (s1 : Shared) (Q1 : Value → Shared → Prop) (E1 : Value → Shared → Prop), (∀ b o, b ≠ s.heap.objs.size → s.heap.get? b = some o → s1.heap.get? b = some o) → Q1 (.ref z) s1 → wpAny (model prog w) B (pyIter (.ref z)) Q1 E1 s1)
    (W : ∀ B : Around, B.handled = A.handled → Src prog w B z s.heap.objs.size wr n Rel St) (hst : St 0 s.heap) (hn : n ≤ sizeLine)
    (hQ : ∀ h' tk Ts acc c, (∀ b o, b ∉ wr → s.heap.get? b = some o → h'.get? b = some o) → LstAt h' s.heap.objs.size acc c → acc.toList = Ts.map Value.ref → Ts.length = n → Outs s.heap.objs.size h' wr Rel Ts → Q (.ref s.heap.objs.size) { s with heap := h', toks := tk }) :
    wpAny (model prog w) A (call (.type "list") [.ref z]) Q E s := by
  have zS : s.heap.objs.size ≠ z := fun e => by
    obtain ⟨o, e1, _⟩ := hT _ hst
    rw [← e] at e1
    exact absurd (Heap.lt_size e1) (Nat.lt_irrefl _)
  have W1 := W A.in1.in1 rfl
  refine callType_codes (Q₁ := fun obj s₁ => obj = .ref s.heap.objs.size ∧ s₁ = { s with heap := s.heap.push { cls := .type "list", data := .seq #[] } }) F.called_list (F.typeCall_list_1 _) F.entry_list_init
    (code_list_new _ ⟨rfl, rfl⟩) fun obj s₁ h₁ => ?_
  obtain ⟨rfl, rfl⟩ := h₁
  have k0 : ∀ b o, s.heap.get? b = some o → (s.heap.push { cls := .type "list", data := .seq #[] }).get? b = some o := fun b o e => Heap.get?_push_of_some _ e
  have hS : (s.heap.push { cls := .type "list", data := .seq #[] }).get? s.heap.objs.size = some { cls := .type "list", data := .seq #[] } := Heap.get?_push_size _ rfl
  refine ⟨⟨_, hS, rfl⟩, F.args_list_init_2 _ _, ?_⟩
  generalize hg : s.heap.push { cls := .type "list", data := .seq #[] } = g at *
  show wpAny _ A.in1.in1 (do let old ← Builtin.List.listItems (.ref s.heap.objs.size); Builtin.List.listUpdate (.ref s.heap.objs.size) (fun _ => #[]); letGo old.toList.reverse; Builtin.List.listExtendWith (.ref s.heap.objs.size) (.ref z) .none) _ _ _
  refine wpAny_bind ?_
  unfold Builtin.List.listItems
  refine wpAny_bind (wpAny_seqItems (s := { s with heap := g }) hS rfl (wpAny_pure ?_))
  show wpAny _ A.in1.in1 (updateSeq s.heap.objs.size (fun _ => #[]) >>= fun _ => letGo (#[] : Array Value).toList.reverse >>= fun _ => Builtin.List.listExtendWith (.ref s.heap.objs.size) (.ref z) .none) _ _ _
  refine wpAny_bind (wpAny_updateSeq (s := { s with heap := g }) hS rfl ?_)
  have hS2 := Heap.get?_update_self (Obj.mapSeq (fun _ => (#[] : Array Value))) hS rfl
  have o2 : ∀ b o, b ≠ s.heap.objs.size → s.heap.get? b = some o → (g.update s.heap.objs.size (Obj.mapSeq (fun _ => (#[] : Array Value)))).get? b = some o := fun b o hb e => (Heap.get?_update_other _ _ (Ne.symm hb)).trans (k0 b o e)
  generalize g.update s.heap.objs.size (Obj.mapSeq (fun _ => (#[] : Array Value))) = g2 at *
  refine wpAny_bind (wpAny_letGo ?_)
  have st2 : St 0 g2 := W1.frame 0 _ _ hst o2
  obtain ⟨oz, ez, cz⟩ := hT _ st2
  have tz : ({ s with heap := g2 } : Shared).TypeIs (.ref z) T := ⟨oz, ez, cz⟩
  unfold Builtin.List.listExtendWith
  refine wpAny_bind (wpAny_typeOf tz ?_)
  have e1 : Builtin.List.listSameRef (.ref s.heap.objs.size) (.ref z) = false := by simp [Builtin.List.listSameRef, zS]
  simp only [e1, nl, nt, Bool.or_false, Bool.false_eq_true, if_false]
  refine wpAny_bind (hself _ _ _ _ o2 ?_)
  refine wpAny_bind (wpAny_holding ?_)
  unfold Builtin.List.listLengthHint
  refine wpAny_bind (wpAny_specialOf tz hl ?_)
  show wpAny _ A.in1.in1 (specialOf (Value.ref z) (Str.ofString "__length_hint__") >>= _) _ _ _
  refine wpAny_bind (wpAny_specialOf tz hh ?_)
  refine wpAny_pure ?_
  show wpAny _ A.in1.in1 (rule "list.extend.makes-room" >>= fun _ => Builtin.List.listTouch (.ref s.heap.objs.size) >>= fun _ =>
    again (.builtin "list.extend.loop" ⟨[.ref s.heap.objs.size, .ref z, .none], []⟩)) _ _ _
  refine wpAny_bind (wpAny_rule ?_)
  refine wpAny_bind ?_
  show wpAny _ A.in1.in1 (updateSeq s.heap.objs.size (·.push .none) >>= fun _ => updateSeq s.heap.objs.size (·.pop)) _ _ _
  refine wpAny_bind (wpAny_updateSeq (s := { s with heap := g2 }) hS2 rfl ?_)
  have hS3 := Heap.get?_update_self (Obj.mapSeq (·.push Value.none)) hS2 rfl
  refine wpAny_updateSeq (hz := by seq_fits) hS3 rfl ?_
  have hS4 := Heap.get?_update_self (Obj.mapSeq (·.pop)) hS3 rfl
  have o4 : ∀ b o, b ≠ s.heap.objs.size → s.heap.get? b = some o → ((g2.update s.heap.objs.size (Obj.mapSeq (·.push Value.none))).update s.heap.objs.size (Obj.mapSeq (·.pop))).get? b = some o :=
    fun b o hb e => (Heap.get?_update_other _ _ (Ne.symm hb)).trans ((Heap.get?_update_other _ _ (Ne.symm hb)).trans (o2 b o hb e))
  generalize (g2.update s.heap.objs.size (Obj.mapSeq (·.push Value.none))).update s.heap.objs.size (Obj.mapSeq (·.pop)) = g4 at *
  refine wpAny_pure ⟨plainId_quiet F.plain_extend_loop _, fill_loop W1 hn _ n 0 _ [] _ _ rfl (Nat.zero_le _) (W1.frame 0 _ _ hst o4) hS4 (by first | rfl | simp) rfl { at_ := (fun j T e => by cases e), nd := List.nodup_nil } fun h' tk Ts acc c kk a1 a2 a3 a4 => ?_⟩
  refine ⟨rfl, hQ h' tk Ts acc c (fun b o hb e => kk b o (Nat.ne_of_lt (Heap.lt_size e)) hb (o4 b o (Nat.ne_of_lt (Heap.lt_size e)) e)) a1 a2 a3 a4⟩
end
end LP
/-! DL43: list(zip(..)), list(enumerate(..)) over data. -/
namespace LP
open PySem PySem.Spec PyProof.Rows
section
variable {prog : Program} {w : World} {A : Around}
theorem src_zip (hA : A.handled = none) {z TI TO i1 i2 l1 l2 S : Addr} (D : ZipApart z TI TO i1 i2 l1 l2) (xs ys : Array Value) (dz : S ≠ z) (dTI : S ≠ TI) (dTO : S ≠ TO) (d1 : S ≠ i1) (d2 : S ≠ i2) (e1 : S ≠ l1) (e2 : S ≠ l2) :
    Src prog w A z S [z, TO, i1, i2] (min xs.size ys.size) (fun i k v => xs[i]? = some k ∧ ys[i]? = some v)
      (fun i h => (IsPair h TI (.ref i1) (.ref i2) ∧ h.IsListIter i1 l1 i ∧ h.IsListIter i2 l2 i ∧ h.IsList l1 xs ∧ h.IsList l2 ys) ∧ (∃ o, h.get? z = some o ∧ o.cls = .type "zip") ∧ (∃ o, h.get? TO = some o) ∧
        ((IsZip h z TI TO .none ∧ ∃ a b, IsPair h TO a b) ∨ ∃ T f oT, IsZipHeld h z TI TO T f ∧ h.get? T = some oT ∧ T ≠ z ∧ T ≠ i1 ∧ T ≠ i2 ∧ T ≠ S)) where
  off := by simp [dz, dTO, d1, d2]
  frame := by
    rintro i h h' ⟨⟨g1, g2, g3, g4, g5⟩, ⟨oz, g6, g6'⟩, ⟨oT, g7⟩, g8⟩ k
    refine ⟨⟨k _ _ dTI.symm g1, g2.at fun o q => k _ o d1.symm q, g3.at fun o q => k _ o d2.symm q, g4.at fun o q => k _ o e1.symm q, g5.at fun o q => k _ o e2.symm q⟩, ⟨oz, k _ _ dz.symm g6, g6'⟩, ⟨oT, k _ _ dTO.symm g7⟩, ?_⟩
    rcases g8 with ⟨a1, a, b, a2⟩ | ⟨T, f, o, a1, a2, r⟩
    · exact .inl ⟨k _ _ dz.symm a1, a, b, k _ _ dTO.symm a2⟩
    · exact .inr ⟨T, f, o, k _ _ dz.symm a1, k _ _ r.2.2.2 a2, r⟩
  item := by
    rintro i s Q E hi ⟨⟨g1, g2, g3, g4, g5⟩, ⟨oz, g6, _⟩, _, g8⟩ hS q
    have ix : i < xs.size := by omega
    have iy : i < ys.size := by omega
    have hx := Array.getElem?_eq_getElem ix
    have hy := Array.getElem?_eq_getElem iy
    have new : ∀ {c : Addr} {o : Obj}, s.heap.get? c = some o → s.heap.objs.size ≠ c := fun e => Nat.ne_of_gt (Heap.lt_size e)
    have nz := new g6
    have n1 : s.heap.objs.size ≠ i1 := by obtain ⟨_, e, _⟩ := g2; exact new e
    have n2 : s.heap.objs.size ≠ i2 := by obtain ⟨_, e, _⟩ := g3; exact new e
    rcases g8 with ⟨a1, a, b, a2⟩ | ⟨T, f, o, a1, a2, r1, r2, r3, r4⟩
    · refine wpAny_pyNext_zip_item D a1 g1 a2 g2 g3 g4 g5 hx hy fun h' b1 b2 b3 b4 b5 b6 k => q _ _ h' s.toks ⟨hx, hy⟩ b5 ?_ (by omega) fun c o' hc e => k c o' (fun z => hc (by simp [z])) (fun z => hc (by simp [z])) (fun z => hc (by simp [z])) (fun z => hc (by simp [z])) e
      exact ⟨⟨k _ _ D.TIz D.TITO D.TIi1 D.TIi2 g1, b3, b4, g4.at fun o e => k _ o D.l1z D.l1TO D.l1i1 D.l1i2 e, g5.at fun o e => k _ o D.l2z D.l2TO D.l2i1 D.l2i2 e⟩, ⟨_, b1, rfl⟩, ⟨_, b2⟩, .inr ⟨_, false, _, b1, b5, nz, n1, n2, Nat.ne_of_gt hS⟩⟩
    · rename_i hTO
      refine wpAny_pyNext_zip_item_held D a1 a2 g1 g2 g3 g4 g5 hx hy fun h' b1 b3 b4 b5 b6 k => q _ _ h' s.toks ⟨hx, hy⟩ b5 ?_ (by omega) fun c o' hc e => k c o' (fun z => hc (by simp [z])) (fun z => hc (by simp [z])) (fun z => hc (by simp [z])) e
      obtain ⟨oT, hTO⟩ := hTO
      exact ⟨⟨k _ _ D.TIz D.TIi1 D.TIi2 g1, b3, b4, g4.at fun o e => k _ o D.l1z D.l1i1 D.l1i2 e, g5.at fun o e => k _ o D.l2z D.l2i1 D.l2i2 e⟩, ⟨_, b1, rfl⟩, ⟨oT, k _ _ D.TOz D.TOi1 D.TOi2 hTO⟩, .inr ⟨T, true, o, b1, k _ _ r1 r2 r3 a2, r1, r2, r3, r4⟩⟩
  done := by
    rintro s Q E ⟨⟨g1, g2, g3, g4, g5⟩, _, _, g8⟩ q
    have fin : xs[min xs.size ys.size]? = none ∨ ys[min xs.size ys.size]? = none := by
      by_cases h : xs.size ≤ ys.size
      · exact .inl (Array.getElem?_eq_none (by omega))
      · exact .inr (Array.getElem?_eq_none (by omega))
    rcases g8 with ⟨a1, a, b, a2⟩ | ⟨T, f, o, a1, a2, r1, r2, r3, r4⟩
    · exact wpAny_pyNext_zip_end hA D a1 g1 a2 g2 g3 g4 g5 fin fun h' k => q h' s.toks fun c o' hc e => k c o' (fun z => hc (by simp [z])) (fun z => hc (by simp [z])) (fun z => hc (by simp [z])) (fun z => hc (by simp [z])) e
    · exact wpAny_pyNext_zip_end_held hA D a1 a2 g1 g2 g3 g4 g5 fin fun h' k => q h' s.toks fun c o' hc e => k c o' (fun z => hc (by simp [z])) (fun z => hc (by simp [z])) (fun z => hc (by simp [z])) e
  old := by
    rintro h i ⟨⟨g1, ⟨o1, g2, _⟩, ⟨o2, g3, _⟩, _⟩, ⟨oz, g6, _⟩, hTO, _⟩ b hb
    simp only [List.mem_cons, List.not_mem_nil, or_false] at hb
    rcases hb with rfl | rfl | rfl | rfl
    · exact ⟨_, g6⟩
    · exact hTO
    · exact ⟨_, g2⟩
    · exact ⟨_, g3⟩
theorem src_enum (hA : A.handled = none) {e it l S : Addr} (hei : e ≠ it) (hle : l ≠ e) (hli : l ≠ it) (items : Array Value) (de : S ≠ e) (dit : S ≠ it) (dl : S ≠ l) :
    Src prog w A e S [e, it] items.size (fun i k v => (∃ t, k = .int i t) ∧ items[i]? = some v)
      (fun i h => (h.IsListIter it l i ∧ h.IsList l items) ∧ (∃ o, h.get? e = some o ∧ o.cls = .type "enumerate") ∧
        ((∃ old, IsEnum h e it i old) ∨ ∃ old T f oT, IsEnumHeld h e it i old T f ∧ h.get? T = some oT ∧ T ≠ e ∧ T ≠ it ∧ T ≠ S)) where
  off := by simp [de, dit]
  frame := by
    rintro i h h' ⟨⟨g1, g2⟩, ⟨oz, g6, g6'⟩, g8⟩ k
    refine ⟨⟨g1.at fun o q => k _ o dit.symm q, g2.at fun o q => k _ o dl.symm q⟩, ⟨oz, k _ _ de.symm g6, g6'⟩, ?_⟩
    rcases g8 with ⟨old, a1⟩ | ⟨old, T, f, o, a1, a2, r⟩
    · exact .inl ⟨old, k _ _ de.symm a1⟩
    · exact .inr ⟨old, T, f, o, k _ _ de.symm a1, k _ _ r.2.2 a2, r⟩
  item := by
    rintro i s Q E hi ⟨⟨g1, g2⟩, ⟨oz, g6, _⟩, g8⟩ hS q
    have hx := Array.getElem?_eq_getElem hi
    have new : ∀ {c : Addr} {o : Obj}, s.heap.get? c = some o → s.heap.objs.size ≠ c := fun e => Nat.ne_of_gt (Heap.lt_size e)
    have nz := new g6
    have n1 : s.heap.objs.size ≠ it := by obtain ⟨_, e, _⟩ := g1; exact new e
    have ci : ((i : Int) + 1) = ((i + 1 : Nat) : Int) := rfl
    rcases g8 with ⟨old, a1⟩ | ⟨old, T, f, o, a1, a2, r1, r2, r3⟩
    · refine wpAny_pyNext_enum_item a1 g1 g2 hx hei fun h' b1 b3 b5 b6 k => q _ _ h' (s.toks + 1) ⟨⟨_, rfl⟩, hx⟩ b5 ?_ (by omega) fun c o' hc e => k c o' (fun z => hc (by simp [z])) (fun z => hc (by simp [z])) e
      exact ⟨⟨b3, g2.at fun o e => k _ o hle hli e⟩, ⟨_, b1, rfl⟩, .inr ⟨_, _, false, _, b1, b5, nz, n1, Nat.ne_of_gt hS⟩⟩
    · refine wpAny_pyNext_enum_item_held a1 a2 r1 r2 g1 g2 hx hei fun h' b1 b3 b5 b6 k => q _ _ h' (s.toks + 1) ⟨⟨_, rfl⟩, hx⟩ b5 ?_ (by omega) fun c o' hc e => k c o' (fun z => hc (by simp [z])) (fun z => hc (by simp [z])) e
      exact ⟨⟨b3, g2.at fun o e => k _ o hle hli e⟩, ⟨_, b1, rfl⟩, .inr ⟨_, T, true, o, b1, k _ _ r1 r2 a2, r1, r2, r3⟩⟩
  done := by
    rintro s Q E ⟨⟨g1, g2⟩, _, g8⟩ q
    have fin : items[items.size]? = none := Array.getElem?_eq_none (Nat.le_refl _)
    rcases g8 with ⟨old, a1⟩ | ⟨old, T, f, o, a1, a2, r1, r2, r3⟩
    · exact wpAny_pyNext_enum_end hA a1 g1 g2 fin fun h' k => q h' s.toks fun c o' hc e => k c o' (fun z => hc (by simp [z])) e
    · exact wpAny_pyNext_enum_end_held hA a1 g1 g2 fin fun h' k => q h' s.toks fun c o' hc e => k c o' (fun z => hc (by simp [z])) e
  old := by
    rintro h i ⟨⟨⟨o1, g2, _⟩, _⟩, ⟨oz, g6, _⟩, _⟩ b hb
    simp only [List.mem_cons, List.not_mem_nil, or_false] at hb
    rcases hb with rfl | rfl
    · exact ⟨_, g6⟩
    · exact ⟨_, g2⟩
end
theorem zip_no_len : typeLookup (.type "zip") "__len__" = pure none := by rw [typeLookup_type, builtinLookup_eq_fast]; kernel_rfl
theorem zip_no_hint : typeLookup (.type "zip") "__length_hint__" = pure none := by rw [typeLookup_type, builtinLookup_eq_fast]; kernel_rfl
theorem enum_no_len : typeLookup (.type "enumerate") "__len__" = pure none := by rw [typeLookup_type, builtinLookup_eq_fast]; kernel_rfl
theorem enum_no_hint : typeLookup (.type "enumerate") "__length_hint__" = pure none := by rw [typeLookup_type, builtinLookup_eq_fast]; kernel_rfl
end LP
namespace LP
open PySem PySem.Spec PyProof.Rows L2
/-! ### in the tracked heap -/
def putP : Hp → List Addr → List (V × V) → Hp
  | H, t :: ts, p :: ps => putP (upd H t (.tup [p.1, p.2])) ts ps
  | H, _, _ => H
theorem putP_off {b : Addr} : ∀ (ts : List Addr) (ps : List (V × V)) (H : Hp), b ∉ ts → putP H ts ps b = H b
  | [], _, _, _ => rfl
  | _ :: _, [], _, _ => rfl
  | t :: ts, p :: ps, H, h => by
    show putP (upd H t _) ts ps b = H b
    rw [putP_off ts ps _ fun z => h (List.mem_cons_of_mem _ z), upd_ne fun z => h (by rw [z]; exact List.mem_cons_self)]
theorem putP_at : ∀ (ts : List Addr) (ps : List (V × V)) (H : Hp), ts.length = ps.length → ts.Nodup → ∀ (i : Nat) (t : Addr), ts[i]? = some t → ∃ p, ps[i]? = some p ∧ putP H ts ps t = some (.tup [p.1, p.2])
  | [], _, _, _, _, i, t, e => by cases e
  | _ :: _, [], _, h, _, _, _, _ => by cases h
  | t0 :: ts, p0 :: ps, H, h, hn, 0, t, e => by
    cases e
    refine ⟨p0, rfl, ?_⟩
    show putP (upd H t0 _) ts ps t0 = _
    rw [putP_off ts ps _ (List.nodup_cons.mp hn).1, upd_same]
  | t0 :: ts, p0 :: ps, H, h, hn, i + 1, t, e => putP_at ts ps _ (Nat.succ.inj h) (List.nodup_cons.mp hn).2 i t e
theorem refs_vals : ∀ ts : List Addr, Vals (ts.map V.ref) (ts.map Value.ref)
  | [] => .nil
  | _ :: ts => .cons rfl (refs_vals ts)
def Made (H H' : Hp) (p : Addr) (ts : List Addr) (ps : List (V × V)) : Prop := (∀ b o, H b = some o → H' b = some o) ∧ H p = none ∧ (∀ t ∈ ts, H t = none) ∧ H' p = some (.lst (ts.map V.ref)) ∧ ts.length = ps.length ∧ ∀ (i : Nat) (t : Addr), ts[i]? = some t → ∃ q, ps[i]? = some q ∧ H' t = some (.tup [q.1, q.2])
theorem pairs_laid {X : Cx} {pins : List (Addr × Obj)} {σ : L2.St} {H : Hp} {s : Shared} {h' : Heap} {tk c : Nat} {acc : Array Value} {S : Addr} {wr : List Addr} {Rel : Nat → Value → Value → Prop} {Ts : List Addr} {ps : List (V × V)} (I : Inv X pins σ H s) (hz : ps.length ≤ sizeLine)
    (hk : ∀ b o, s.heap.get? b = some o → h'.get? b = some o) (hS : s.heap.objs.size ≤ S) (hL : LstAt h' S acc c) (hacc : acc.toList = Ts.map Value.ref) (hl : Ts.length = ps.length) (ho : Outs S h' wr Rel Ts)
    (hr : ∀ i k v, Rel i k v → ∃ p, ps[i]? = some p ∧ RelV p.1 k ∧ RelV p.2 v) : ∃ H', Made H H' S Ts ps ∧ Inv X pins σ H' { s with heap := h', toks := tk } := by
  have SnT : S ∉ Ts := fun z => by
    obtain ⟨j, hj, e⟩ := List.getElem_of_mem z
    exact Nat.lt_irrefl _ (ho.at_ j S (by rw [List.getElem?_eq_getElem hj, e])).1
  have gt : ∀ t ∈ Ts, S < t := fun t ht => by
    obtain ⟨j, hj, e⟩ := List.getElem_of_mem ht
    exact (ho.at_ j t (by rw [List.getElem?_eq_getElem hj, e])).1
  have new : ∀ t ∈ Ts, H t = none := fun t ht => I.hok.fresh (Nat.le_of_lt (Nat.lt_of_le_of_lt hS (gt t ht)))
  have newS : H S = none := I.hok.fresh hS
  have off : ∀ b, b ∉ Ts → b ≠ S → putP (upd H S (.lst (Ts.map V.ref))) Ts ps b = H b := fun b h1 h2 => by rw [putP_off _ _ _ h1, upd_ne h2]
  have low : ∀ b o, s.heap.get? b = some o → b ∉ Ts ∧ b ≠ S := fun b o e => ⟨fun z => Nat.lt_irrefl _ (Nat.lt_of_lt_of_le (Nat.lt_trans (gt b z) (Heap.lt_size e)) hS), fun z => Nat.lt_irrefl S (Nat.lt_of_lt_of_le (z ▸ Heap.lt_size e) hS)⟩
  have kp : ∀ b u, H b = some u → putP (upd H S (.lst (Ts.map V.ref))) Ts ps b = some u := fun b u e => by
    rw [off b (fun z => by rw [new b z] at e; cases e) (fun z => by rw [z, newS] at e; cases e)]
    exact e
  have eS : putP (upd H S (.lst (Ts.map V.ref))) Ts ps S = some (.lst (Ts.map V.ref)) := by rw [putP_off _ _ _ SnT, upd_same]
  have at_ := putP_at Ts ps (upd H S (.lst (Ts.map V.ref))) hl ho.nd
  refine ⟨_, ⟨kp, newS, new, eS, hl, at_⟩, ?_⟩
  refine I.call' (ch := []) rfl ⟨fun b o q _ _ _ => hk b o q, fun b o q _ _ _ => ⟨o.slots, hk b o q⟩, fun b o q n _ => ?_, fun b o q _ => ⟨o, hk b o q⟩, fun b xs q => kp b _ q, fun b o u q => kp b _ q, fun b ps q => ⟨#[], by rw [kp b _ q]; simp⟩⟩ (fun b u q => ?_) I.bare fun b z => by cases z
  · obtain ⟨z1, z2⟩ := low b o q
    rw [off b z1 z2]
    exact n
  · by_cases hb : b ∈ Ts
    · obtain ⟨j, hj, ej⟩ := List.getElem_of_mem hb
      have ej : Ts[j]? = some b := by rw [List.getElem?_eq_getElem hj, ej]
      obtain ⟨p, e1, e2⟩ := at_ j b ej
      rw [e2] at q
      cases q
      obtain ⟨_, _, k, v, r, pr⟩ := ho.at_ j b ej
      obtain ⟨p', e3, r1, r2⟩ := hr j k v r
      rw [e1] at e3
      cases e3
      exact ⟨by show 2 ≤ sizeLine; decide, [k, v], .cons r1 (.cons r2 .nil), ⟨_, pr, rfl, _, rfl⟩⟩
    · by_cases hb2 : b = S
      · rw [hb2] at q ⊢
        rw [eS] at q
        cases q
        refine ⟨by rw [List.length_map]; omega, acc.toList, c, by rw [hacc]; exact refs_vals Ts, ?_⟩
        rw [Array.toArray_toList]
        exact hL
      · rw [off b hb hb2] at q
        exact (I.hok b u q).stay (fun d v _ y => hk d v y) (fun d y => kp d _ y) fun d xs y => kp d _ y
def rMade (ps : List (V × V)) (H : Hp) (Q : VK) : Prop := ∀ (H' : Hp) (p : Addr) (ts : List Addr), Made H H' p ts ps → Q (.ref p) H'
def tListZip (K : PySem.W.Frag) (ta : TA) : TE := fun σ H Q => ta σ H fun vs H1 => ∃ a b xs ys, vs = [.ref a, .ref b] ∧ SqL K H1 a xs ∧ SqL K H1 b ys ∧ rMade (xs.zip ys) H1 Q
def tListEnum (K : PySem.W.Frag) (ta : TA) : TE := fun σ H Q => ta σ H fun vs H1 => ∃ a xs, vs = [.ref a] ∧ SqL K H1 a xs ∧ rMade ((List.range xs.length).zipWith (fun (i : Nat) x => (V.int (i : Int), x)) xs) H1 Q
section
variable {X : Cx} {e e2 : Expr} {ta : TA} {p p2 pos pos2 : Pos}
theorem pe_listZip (hc : X.calm = true) (hg2 : Gl X "list") (hm2 : X.mg "list" = none) (hv2 : bootBuiltins "list" = some (.type "list")) (hg : Gl X "zip") (hm : X.mg "zip" = none) (ha : PA X [e, e2] ta)
    (hs : starEach [e, e2] X.env = (false, eval e X.env) :: starEach [e2] X.env := by rfl) (hpl : (backTo pos (starEach [e2] X.env)).any (·.1) = false := by rfl)
    (hs2 : starEach [.Call (.Name "zip" p) [e, e2] [] pos] X.env = (false, eval (.Call (.Name "zip" p) [e, e2] [] pos) X.env) :: starEach [] X.env := by rfl) :
    PE X (.Call (.Name "list" p2) [.Call (.Name "zip" p) [e, e2] [] pos] [] pos2) (tListZip X.K ta) := by
  refine ⟨fun pins s σ H Q I h => ?_⟩
  refine wpAny_Call_Name_kw (ld_blt I hg2 hm2 hv2 ?_)
  refine PyProof.Rows.callWith_type1 ?_ hs2 rfl
  rw [hs2]
  show wpAny _ _ (spliced ((false, eval (.Call (.Name "zip" p) [e, e2] [] pos) X.env) :: backTo pos2 (starEach [] X.env))) _ _ s
  refine Calls.spliced_cons ?_
  refine Call_ (ld_blt I hg hm PyProof.Rows.boot_zip (PyProof.Rows.callWith_type1 (thn (ha.run pos pins s σ H _ I h) fun us s1 ⟨vs, H1, I1, r1, q1⟩ => ?_) hs hpl))
  obtain ⟨a, b, xs, ys, ex, hqx, hqy, q⟩ := q1
  subst ex
  cases r1 with
  | cons r rr =>
    cases rr with
    | cons r' rr =>
      cases rr
      cases r
      cases r'
      obtain ⟨its, rv, p1, z1⟩ := I1.list hqx
      obtain ⟨its2, rv2, p3, z2⟩ := I1.list hqy
      have la : a < s1.heap.objs.size := p1.lt
      have lb : b < s1.heap.objs.size := p3.lt
      have lx := rv.length
      have ly := rv2.length
      refine call_zip_2 p1.isList p3.isList fun h' hz hTI hTO h1 h2 hsz hk => ?_
      have DD := PySem.W.ktu_apart s1.heap.objs.size a b la lb
      refine Calls.spliced_nil ?_
      have hh : X.A.handled = none := I1.ok.hd hc
      have st0 : (IsPair h' (s1.heap.objs.size + 2) (.ref s1.heap.objs.size) (.ref (s1.heap.objs.size + 1)) ∧ h'.IsListIter s1.heap.objs.size a 0 ∧ h'.IsListIter (s1.heap.objs.size + 1) b 0 ∧ h'.IsList a its.toArray ∧ h'.IsList b its2.toArray) ∧ (∃ o, h'.get? (s1.heap.objs.size + 4) = some o ∧ o.cls = .type "zip") ∧ (∃ o, h'.get? (s1.heap.objs.size + 3) = some o) ∧
          ((IsZip h' (s1.heap.objs.size + 4) (s1.heap.objs.size + 2) (s1.heap.objs.size + 3) .none ∧ ∃ a b, IsPair h' (s1.heap.objs.size + 3) a b) ∨ ∃ T f oT, IsZipHeld h' (s1.heap.objs.size + 4) (s1.heap.objs.size + 2) (s1.heap.objs.size + 3) T f ∧ h'.get? T = some oT ∧ T ≠ s1.heap.objs.size + 4 ∧ T ≠ s1.heap.objs.size ∧ T ≠ s1.heap.objs.size + 1 ∧ T ≠ h'.objs.size) :=
        ⟨⟨hTI, h1, h2, p1.isList.at fun o e => hk _ o e, p3.isList.at fun o e => hk _ o e⟩, ⟨_, hz, rfl⟩, ⟨_, hTO⟩, .inl ⟨hz, _, _, hTO⟩⟩
      refine call_list_src (s := { s1 with heap := h' }) (T := "zip") (wr := [s1.heap.objs.size + 4, s1.heap.objs.size + 3, s1.heap.objs.size, s1.heap.objs.size + 1]) (n := min its.toArray.size its2.toArray.size) (Rel := fun i k v => its.toArray[i]? = some k ∧ its2.toArray[i]? = some v)
        (St := fun i h => (IsPair h (s1.heap.objs.size + 2) (.ref s1.heap.objs.size) (.ref (s1.heap.objs.size + 1)) ∧ h.IsListIter s1.heap.objs.size a i ∧ h.IsListIter (s1.heap.objs.size + 1) b i ∧ h.IsList a its.toArray ∧ h.IsList b its2.toArray) ∧ (∃ o, h.get? (s1.heap.objs.size + 4) = some o ∧ o.cls = .type "zip") ∧ (∃ o, h.get? (s1.heap.objs.size + 3) = some o) ∧
          ((IsZip h (s1.heap.objs.size + 4) (s1.heap.objs.size + 2) (s1.heap.objs.size + 3) .none ∧ ∃ a b, IsPair h (s1.heap.objs.size + 3) a b) ∨ ∃ T f oT, IsZipHeld h (s1.heap.objs.size + 4) (s1.heap.objs.size + 2) (s1.heap.objs.size + 3) T f ∧ h.get? T = some oT ∧ T ≠ s1.heap.objs.size + 4 ∧ T ≠ s1.heap.objs.size ∧ T ≠ s1.heap.objs.size + 1 ∧ T ≠ h'.objs.size))
        (fun h st => st.2.1) zip_no_len zip_no_hint (by decide) (by decide) (fun B s2 Q1 E1 st hq => ?_) (fun B hB => src_zip (hB.trans hh) DD _ _ (by show h'.objs.size ≠ _; omega) (by show h'.objs.size ≠ _; omega) (by show h'.objs.size ≠ _; omega) (by show h'.objs.size ≠ _; omega) (by show h'.objs.size ≠ _; omega) (Nat.ne_of_gt (Nat.lt_of_lt_of_le la (by show _ ≤ h'.objs.size; rw [hsz]; exact Nat.le_add_right _ _))) (Nat.ne_of_gt (Nat.lt_of_lt_of_le lb (by show _ ≤ h'.objs.size; rw [hsz]; exact Nat.le_add_right _ _))))
        st0 (by rw [List.size_toArray, List.size_toArray]; omega) fun h2' tk Ts acc c k2 a1 a2 a3 a4 => ?_
      · exact wpAny_pyIter_zip (st _ _ (by show s1.heap.objs.size + 4 ≠ h'.objs.size; omega) hz) hq
      · have hps : (xs.zip ys).length = min its.length its2.length := by rw [List.length_zip, lx, ly]
        have key : ∀ (i : Nat) (k v : Value), (its.toArray[i]? = some k ∧ its2.toArray[i]? = some v) → ∃ p, (xs.zip ys)[i]? = some p ∧ RelV p.1 k ∧ RelV p.2 v := fun i k v hr => by
          obtain ⟨e1, e2'⟩ := hr
          have e1 : its[i]? = some k := by rw [← e1]; simp
          have e2' : its2[i]? = some v := by rw [← e2']; simp
          have i1 := (List.getElem?_eq_some_iff.mp e1).1
          have i2 := (List.getElem?_eq_some_iff.mp e2').1
          have gx := List.getElem?_eq_getElem (show i < xs.length by omega)
          have gy := List.getElem?_eq_getElem (show i < ys.length by omega)
          obtain ⟨u, hu, ru⟩ := rv.get gx
          obtain ⟨u2, hu2, ru2⟩ := rv2.get gy
          rw [e1] at hu
          rw [e2'] at hu2
          cases hu
          cases hu2
          refine ⟨(xs[i], ys[i]), ?_, ru, ru2⟩
          rw [List.getElem?_zip_eq_some]
          exact ⟨gx, gy⟩
        obtain ⟨H', hM, J⟩ := pairs_laid (tk := tk) (ps := xs.zip ys) I1 (by rw [hps]; omega) (fun b o e => k2 b o (fun hm => by
            have lt := Heap.lt_size e
            simp only [List.mem_cons, List.not_mem_nil, or_false] at hm
            rcases hm with rfl | rfl | rfl | rfl <;> first | exact absurd lt (Nat.not_lt.mpr (Nat.le_add_right _ _)) | exact absurd lt (Nat.lt_irrefl _)) (hk b o e)) (by show s1.heap.objs.size ≤ h'.objs.size; omega) a1 a2 (by rw [a3, hps, List.size_toArray, List.size_toArray]) a4 key
        exact ⟨.ref _, H', J, rfl, q H' _ Ts hM⟩
theorem pe_listEnum (hc : X.calm = true) (hg2 : Gl X "list") (hm2 : X.mg "list" = none) (hv2 : bootBuiltins "list" = some (.type "list")) (hg : Gl X "enumerate") (hm : X.mg "enumerate" = none) (ha : PA X [e] ta) (hs : starEach [e] X.env = [(false, eval e X.env)] := by rfl)
    (hs2 : starEach [.Call (.Name "enumerate" p) [e] [] pos] X.env = (false, eval (.Call (.Name "enumerate" p) [e] [] pos) X.env) :: starEach [] X.env := by rfl) :
    PE X (.Call (.Name "list" p2) [.Call (.Name "enumerate" p) [e] [] pos] [] pos2) (tListEnum X.K ta) := by
  refine ⟨fun pins s σ H Q I h => ?_⟩
  refine wpAny_Call_Name_kw (ld_blt I hg2 hm2 hv2 ?_)
  refine PyProof.Rows.callWith_type1 ?_ hs2 rfl
  rw [hs2]
  show wpAny _ _ (spliced ((false, eval (.Call (.Name "enumerate" p) [e] [] pos) X.env) :: backTo pos2 (starEach [] X.env))) _ _ s
  refine Calls.spliced_cons ?_
  refine Call_ (ld_blt I hg hm PyProof.Rows.boot_enumerate (PyProof.Rows.callWith_type1 (thn (ha.run pos pins s σ H _ I h) fun us s1 ⟨vs, H1, I1, r1, q1⟩ => ?_) hs rfl))
  obtain ⟨a, xs, ex, hqx, q⟩ := q1
  subst ex
  cases r1 with
  | cons r rr =>
    cases rr
    cases r
    obtain ⟨its, rv, p1, z1⟩ := I1.list hqx
    have la : a < s1.heap.objs.size := p1.lt
    have lx := rv.length
    refine call_enumerate_list p1.isList fun h' he hit hsz hk => ?_
    refine Calls.spliced_nil ?_
    have hh : X.A.handled = none := I1.ok.hd hc
    have st0 : (h'.IsListIter s1.heap.objs.size a 0 ∧ h'.IsList a its.toArray) ∧ (∃ o, h'.get? (s1.heap.objs.size + 1) = some o ∧ o.cls = .type "enumerate") ∧
        ((∃ old, IsEnum h' (s1.heap.objs.size + 1) s1.heap.objs.size ((0 : Nat) : Int) old) ∨ ∃ old T f oT, IsEnumHeld h' (s1.heap.objs.size + 1) s1.heap.objs.size ((0 : Nat) : Int) old T f ∧ h'.get? T = some oT ∧ T ≠ s1.heap.objs.size + 1 ∧ T ≠ s1.heap.objs.size ∧ T ≠ h'.objs.size) :=
      ⟨⟨hit, p1.isList.at fun o e => hk _ o e⟩, ⟨_, he, rfl⟩, .inl ⟨_, he⟩⟩
    refine call_list_src (s := { s1 with heap := h' }) (T := "enumerate") (wr := [s1.heap.objs.size + 1, s1.heap.objs.size]) (n := its.toArray.size) (Rel := fun i k v => (∃ t, k = .int i t) ∧ its.toArray[i]? = some v)
      (St := fun i h => (h.IsListIter s1.heap.objs.size a i ∧ h.IsList a its.toArray) ∧ (∃ o, h.get? (s1.heap.objs.size + 1) = some o ∧ o.cls = .type "enumerate") ∧
        ((∃ old, IsEnum h (s1.heap.objs.size + 1) s1.heap.objs.size i old) ∨ ∃ old T f oT, IsEnumHeld h (s1.heap.objs.size + 1) s1.heap.objs.size i old T f ∧ h.get? T = some oT ∧ T ≠ s1.heap.objs.size + 1 ∧ T ≠ s1.heap.objs.size ∧ T ≠ h'.objs.size))
      (fun h st => st.2.1) enum_no_len enum_no_hint (by decide) (by decide) (fun B s2 Q1 E1 st hq => ?_) (fun B hB => src_enum (hB.trans hh) (Nat.succ_ne_self _) (Nat.ne_of_lt (Nat.lt_succ_of_lt la)) (Nat.ne_of_lt la) _ (by show h'.objs.size ≠ _; omega) (by show h'.objs.size ≠ _; omega) (Nat.ne_of_gt (Nat.lt_of_lt_of_le la (by show _ ≤ h'.objs.size; rw [hsz]; exact Nat.le_add_right _ _))))
      st0 (by rw [List.size_toArray]; omega) fun h2' tk Ts acc c k2 a1 a2 a3 a4 => ?_
    · exact wpAny_pyIter_enum (st _ _ (by show s1.heap.objs.size + 1 ≠ h'.objs.size; omega) he) hq
    · have hps : ((List.range xs.length).zipWith (fun (i : Nat) x => (V.int (i : Int), x)) xs).length = its.length := by rw [List.length_zipWith, List.length_range, Nat.min_self, lx]
      have key : ∀ (i : Nat) (k v : Value), ((∃ t, k = .int (i : Int) t) ∧ its.toArray[i]? = some v) → ∃ p, ((List.range xs.length).zipWith (fun (i : Nat) x => (V.int (i : Int), x)) xs)[i]? = some p ∧ RelV p.1 k ∧ RelV p.2 v := fun i k v hr => by
        obtain ⟨⟨t, rfl⟩, e1⟩ := hr
        have e1 : its[i]? = some v := by rw [← e1]; simp
        have i1 := (List.getElem?_eq_some_iff.mp e1).1
        have gx := List.getElem?_eq_getElem (show i < xs.length by omega)
        obtain ⟨u, hu, ru⟩ := rv.get gx
        rw [e1] at hu
        cases hu
        refine ⟨(V.int (i : Int), xs[i]), ?_, ⟨t, rfl⟩, ru⟩
        rw [List.getElem?_zipWith, gx, List.getElem?_range (by omega)]
      obtain ⟨H', hM, J⟩ := pairs_laid (tk := tk) (ps := (List.range xs.length).zipWith (fun (i : Nat) x => (V.int (i : Int), x)) xs) I1 (by rw [hps]; omega) (fun b o e => k2 b o (fun hm => by
          have lt := Heap.lt_size e
          simp only [List.mem_cons, List.not_mem_nil, or_false] at hm
          rcases hm with rfl | rfl <;> first | exact absurd lt (Nat.not_lt.mpr (Nat.le_add_right _ _)) | exact absurd lt (Nat.lt_irrefl _)) (hk b o e)) (by show s1.heap.objs.size ≤ h'.objs.size; omega) a1 a2 (by rw [a3, hps, List.size_toArray]) a4 key
      exact ⟨.ref _, H', J, rfl, q H' _ Ts hM⟩
end
end LP
/-! DL44: list(zip(..)), list(enumerate(..)) as data. -/
namespace DL
open PySem PySem.Spec PyProof.Rows L2 LP SHLF
theorem dpa_ix {K : PySem.W.Frag} {H : Hp} : ∀ (vs : List V) (ds : List PyData), vs.length = ds.length → (∀ (i : Nat) (v : V) (d : PyData), vs[i]? = some v → ds[i]? = some d → Dp K H v d) → DpAll K H vs ds
  | [], [], _, _ => .nil
  | [], _ :: _, h, _ => by cases h
  | _ :: _, [], h, _ => by cases h
  | v :: vs, d :: ds, h, q => .cons (q 0 v d rfl rfl) (dpa_ix vs ds (Nat.succ.inj h) fun i a b e1 e2 => q (i + 1) a b e1 e2)
theorem made_gr {Hd H H' : Hp} {p : Addr} {ts : List Addr} {ps : List (V × V)} (D : DH Hd H) (M : Made H H' p ts ps) : Gr Hd H Hd H' := by
  have E : Ext H H' := ⟨fun a o e _ => M.1 a o e, fun a ⟨qs, e, t⟩ => ⟨qs, M.1 a _ e, t⟩, fun a e => by
    cases q : H a with
    | none => rfl
    | some o =>
      rw [M.1 a o q] at e
      cases e⟩
  exact ⟨Sub.refl _, D.ext E, E, fun _ e _ => e⟩
theorem made_data {K : PySem.W.Frag} {Hd H H' : Hp} {p : Addr} {ts : List Addr} {ps : List (V × V)} {ds : List PyData} (D : DH Hd H) (M : Made H H' p ts ps) (hl : ps.length = ds.length) (h : ∀ (i : Nat) (q : V × V) (d : PyData), ps[i]? = some q → ds[i]? = some d → ∃ a b, d = .tuple [a, b] ∧ Dp K Hd q.1 a ∧ Dp K Hd q.2 b) :
    Gr Hd H (frz Hd H H') H' ∧ Dp K (frz Hd H H') (.ref p) (.list ds) := by
  obtain ⟨s, g⟩ := gr_frzAll (made_gr D M)
  obtain ⟨m1, m2, m3, m4, m5, m6⟩ := M
  have at_ : ∀ {a : Addr} {o : HO}, H a = none → H' a = some o → (∀ ps, o ≠ .tbl ps) → frz Hd H H' a = some o := fun n e t => by
    rw [frz_new n]
    exact noTab_at e t
  refine ⟨g, .lst (.of (at_ m2 m4 fun _ z => nomatch z)) (dpa_ix _ _ (by rw [List.length_map, m5, hl]) fun i v d e1 e2 => ?_)⟩
  rw [List.getElem?_map] at e1
  cases et : ts[i]? with
  | none => rw [et] at e1; cases e1
  | some t =>
    rw [et] at e1
    cases e1
    obtain ⟨q, f1, f2⟩ := m6 i t et
    obtain ⟨a, b, rfl, d1, d2⟩ := h i q d f1 e2
    exact .tup (.of (at_ (m3 t (List.mem_of_getElem? et)) f2 fun _ z => nomatch z)) (.cons (Dp.up d1 s) (.cons (Dp.up d2 s) .nil))
section
variable {X : Cx} {tb : List Addr} {ds : List Sl} {a b : Expr} {p p2 pos pos2 : Pos} {xs ys : List PyData}
theorem ed_listZip (hc : X.calm = true) (hm2 : X.mg "list" = none) (hm : X.mg "zip" = none) (ha : PEd X tb a ds (.list xs)) (hb : PEd X tb b ds (.list ys)) (hg2 : Gl X "list" := by rfl) (hg : Gl X "zip" := by rfl) (hv2 : bootBuiltins "list" = some (.type "list") := by decide +kernel)
    (hs : starEach [a, b] X.env = (false, eval a X.env) :: starEach [b] X.env := by rfl) (hsb : starEach [b] X.env = (false, eval b X.env) :: starEach [] X.env := by rfl) (hpl : (backTo pos (starEach [b] X.env)).any (·.1) = false := by rfl)
    (hs2 : starEach [.Call (.Name "zip" p) [a, b] [] pos] X.env = (false, eval (.Call (.Name "zip" p) [a, b] [] pos) X.env) :: starEach [] X.env := by rfl) :
    PEd X tb (.Call (.Name "list" p2) [.Call (.Name "zip" p) [a, b] [] pos] [] pos2) ds (.list (zipD xs ys)) := by
  obtain ⟨t, p1, q1⟩ := ad_cons ha (ad_cons hb ad_nil hsb) hs
  refine ⟨_, pe_listZip hc hg2 hm2 hv2 hg hm p1 hs hpl hs2, fun Hd H σ E Q z => q1 Hd H σ E _ fun vs Hd1 H1 g dv => ?_⟩
  cases dv with
  | cons h1 h2 =>
    cases h2 with
    | cons h3 h4 =>
      cases h4
      cases h1 with
      | @lst a1 us _ k1 k2 =>
        cases h3 with
        | @lst a2 ws _ k3 k4 =>
          refine ⟨a1, a2, us, ws, rfl, sl_sub g.h.s k1, sl_sub g.h.s k3, fun H' pp ts M => ?_⟩
          have l1 := dpa_len k2
          have l2 := dpa_len k4
          obtain ⟨G, dd⟩ := made_data (K := X.K) (ds := zipD xs ys) g.h M (by unfold zipD; rw [List.length_map, List.length_zip, List.length_zip, l1, l2]) fun i q d e1 e2 => by
            rw [List.getElem?_zip_eq_some] at e1
            obtain ⟨x, y, f1, f2, f3⟩ := zip_get (i := i) (xs := xs) (ys := ys) (List.getElem?_eq_some_iff.mp e2).1
            rw [f3] at e2
            cases e2
            obtain ⟨u, g1, g2⟩ := dpa_get k2 f1
            obtain ⟨v, g3, g4⟩ := dpa_get k4 f2
            rw [e1.1] at g1
            rw [e1.2] at g3
            cases g1
            cases g3
            exact ⟨x, y, rfl, g2, g4⟩
          exact z _ _ _ (g.trans G) dd
theorem ed_listEnum (hc : X.calm = true) (hm2 : X.mg "list" = none) (hm : X.mg "enumerate" = none) (ha : PEd X tb a ds (.list xs)) (hg2 : Gl X "list" := by rfl) (hg : Gl X "enumerate" := by rfl) (hv2 : bootBuiltins "list" = some (.type "list") := by decide +kernel) (hs : starEach [a] X.env = [(false, eval a X.env)] := by rfl)
    (hs2 : starEach [.Call (.Name "enumerate" p) [a] [] pos] X.env = (false, eval (.Call (.Name "enumerate" p) [a] [] pos) X.env) :: starEach [] X.env := by rfl) :
    PEd X tb (.Call (.Name "list" p2) [.Call (.Name "enumerate" p) [a] [] pos] [] pos2) ds (.list (enumD xs)) := by
  obtain ⟨t, p1, q1⟩ := ad_cons ha ad_nil hs
  refine ⟨_, pe_listEnum hc hg2 hm2 hv2 hg hm p1 hs hs2, fun Hd H σ E Q z => q1 Hd H σ E _ fun vs Hd1 H1 g dv => ?_⟩
  cases dv with
  | cons h1 h2 =>
    cases h2
    cases h1 with
    | @lst a1 us _ k1 k2 =>
      refine ⟨a1, us, rfl, sl_sub g.h.s k1, fun H' pp ts M => ?_⟩
      have l1 := dpa_len k2
      obtain ⟨G, dd⟩ := made_data (K := X.K) (ds := enumD xs) g.h M (by unfold enumD; rw [List.length_map, List.length_zipWith, List.length_range, List.length_range, Nat.min_self, l1]) fun i q d e1 e2 => by
        have hi : i < xs.length := by
          have := (List.getElem?_eq_some_iff.mp e2).1
          unfold enumD at this
          rw [List.length_map, List.length_range] at this
          exact this
        have ex : (enumD xs)[i]? = some (.tuple [.int (i : Int), xs[i]]) := by
          unfold enumD
          rw [List.getElem?_map, List.getElem?_range hi]
          show some (PyData.tuple [.int (i : Int), xs.getD i .none]) = _
          rw [List.getD_eq_getElem?_getD, List.getElem?_eq_getElem hi] <;> rfl
        rw [ex] at e2
        cases e2
        obtain ⟨u, g1, g2⟩ := dpa_get k2 (List.getElem?_eq_getElem hi)
        rw [List.getElem?_zipWith, List.getElem?_range (by omega), g1] at e1
        cases e1
        exact ⟨_, _, rfl, .int _, g2⟩
      exact z _ _ _ (g.trans G) dd
end
/-- a def that runs to its end -/
theorem fn_okN {P : Program} {w : World} {K : PySem.W.Frag} {mg : Str → Option Value} {base : Heap} {x qual : Str} {params : Arguments} {body : List Stmt} {scope : Scope} {f : Addr} {fd : FuncData} {tb : List Addr} {N ps : List Str} {k : Nat} {R : List PyData → PyData → Prop} (F : FunD K x qual params body scope [] [] f fd) (S : FnScope N ps scope) (hlen : ps.length ≤ N.length)
    (hb : ∀ (ds : List PyData) (d : PyData), R ds d → ∀ (A : Around) (outer : List PySem.Env) (s : Shared) (H : Hp) (E : XK), Room k (A.deeper (envOfC qual scope s.heap.objs.size f fd.code)) →
      ∃ es, PBd (cxOf CX0 P w K mg base N qual scope f fd.code A outer s H E).nox tb W0 body (sd N ds) (.nx es) ∧ d = .none) : FnOk P w K mg base CX0 (k + 1) f fd ps (spD K tb ps.length R) := by
  refine fok F S (fun vs H Q E h => ?_) fun A outer s H vs Q E hr h => ?_
  · obtain ⟨_, _, _, h, _⟩ := h
    exact h
  · obtain ⟨Hd, ds, d, hl, D, ht, hv, hR, q⟩ := h
    have St : State K tb Hd H Hd H (L2.start N vs) (sd N ds) := ⟨start_env (by rw [hl]; exact hlen) D ht hv, Gr.refl D, fun i xs a e1 _ => (sd_noOwn e1).elim⟩
    obtain ⟨es, ⟨t, p, r⟩, rfl⟩ := hb ds d hR A outer s H E hr
    exact ⟨t, p.nox, r Hd H Hd H _ _ St fun σ' Hd' H' S' _ => q .non Hd' H' S'.gr S'.env.tb .non⟩
end DL
/-! HV: a statement's truths at the worlds, as data. -/
namespace HV
open PySem PySem.Spec PyProof.Rows L2 DL LM RM PT SHLF TR TA TH PF
def pairsD (n : Nat) (one other : Nat → Bool) : List PyData := (List.range n).map fun k => .tuple [.bool (one k), .bool (other k)]
def colV (n : Nat) (f : Nat → Bool) : List PyData := (List.range n).map fun k => .bool (f k)
theorem colV_len (n : Nat) (f : Nat → Bool) : (colV n f).length = n := by unfold colV; rw [List.length_map, List.length_range]
theorem colV_at {n : Nat} {f : Nat → Bool} {i : Nat} (h : i < n) : (colV n f)[i]? = some (.bool (f i)) := by
  unfold colV
  rw [List.getElem?_map, List.getElem?_range h] <;> rfl
theorem zip_cols (n : Nat) (one other : Nat → Bool) : zipD (colV n one) (colV n other) = pairsD n one other := by
  unfold zipD colV pairsD
  rw [List.zip_map, List.map_map, List.zip_eq_zipWith]
  refine List.ext_getElem? fun i => ?_
  rw [List.getElem?_map, List.getElem?_zipWith, List.getElem?_map]
  by_cases h : i < n
  · rw [List.getElem?_range h] <;> rfl
  · rw [List.getElem?_eq_none (by rw [List.length_range]; omega)] <;> rfl
theorem noLs_col : ∀ (l : List Nat) (f : Nat → Bool), noLs (l.map fun k => PyData.bool (f k)) = true
  | [], _ => rfl
  | _ :: r, f => noLs_col r f
/-- the word of a statement -/
def wdS : S → Str
  | .nm _ => "name"
  | .fls => "false"
  | .bin o _ _ => o.word
theorem head_item {X : Cx} {tb : List Addr} (s : S) : ItemD X tb (enc s) (.int 0) (.str (wdS s)) := by
  cases s <;> exact item_t (atI_nat (j := 0) rfl)
/-! ### the way down from a world -/
structure Way (T : List Wo) (k m : Nat) (S : Nat → Nat) : Prop where
  z : S 0 = k
  s : ∀ j, j < m → 0 < S j ∧ S j < T.length ∧ (T.getD (S j) w0).1 = some (S (j + 1))
  e : S m = 0
  d : ∀ j, j < m → S (j + 1) < S j
theorem way {T : List Wo} (h : ParT T) {k : Nat} (hk : k < T.length) : ∃ m S, Way T k m S := by
  obtain ⟨m, S, h0, h1, h2, _⟩ := path h 0 k hk
  refine ⟨m, S, h0, fun j hj => h1 j hj, by omega, fun j hj => ?_⟩
  obtain ⟨a, b, c⟩ := h1 j hj
  obtain ⟨p, hp, e⟩ := h.par (S j) a b
  rw [c] at e
  cases e
  exact hp
theorem Way.lt {T : List Wo} {k m : Nat} {S : Nat → Nat} (h : Way T k m S) (hT : 0 < T.length) {j : Nat} (hj : j ≤ m) : S j < T.length := by
  by_cases q : j < m
  · exact (h.s j q).2.1
  · have : j = m := by omega
    rw [this, h.e]
    exact hT
def atD (S : Nat → Nat) (m t : Nat) : PyData := if t ≤ m then .int (S t : Int) else .none
theorem atD_next {T : List Wo} {k m : Nat} {S : Nat → Nat} (h : Way T k m S) (hr : (T.getD 0 w0).1 = none) {t : Nat} (ht : t ≤ m) : parE (T.getD (S t) w0).1 = atD S m (t + 1) := by
  unfold atD
  by_cases q : t < m
  · rw [(h.s t q).2.2, if_pos (by omega)] <;> rfl
  · have : t = m := by omega
    rw [this, h.e, hr, if_neg (by omega)] <;> rfl
end HV
namespace K7
open PySem PySem.Spec PyProof.Rows L2 DL LM
local macro_rules | `(tactic| walk_at "side") => `(tactic| first | assumption | decide | omega | (simp; done) | (simp; omega))
local macro_rules | `(tactic| walk_at "bin") => `(tactic| first | exact bin_add | exact bin_sub | exact bin_mul (by walk_at "side") | exact bin_fdiv (by walk_at "side") | exact bin_mod (by walk_at "side") | exact bin_catm (by walk_at "side") | exact bin_cat (by walk_at "side") | exact bin_addS (by walk_at "side"))
local macro_rules | `(tactic| walk_at "cmp") => `(tactic| first | exact cmp_lt | exact cmp_le | exact cmp_gt | exact cmp_ge | exact cmp_eqI | exact cmp_neI | exact cmp_eqS | exact cmp_neS | exact cmp_eqB | exact cmp_neB | exact cmp_isN | exact cmp_notN)
local macro_rules | `(tactic| walk_at "slc") => `(tactic| first | exact slc_lm | exact slc_l | exact slc_s (by walk_at "side"))
local macro_rules | `(tactic| walk_at "len") => `(tactic| first | exact len_lm | exact len_l rfl | exact len_t rfl | exact len_s (by walk_at "side"))
local macro_rules | `(tactic| walk_at "room") => `(tactic| exact Room.mono (by assumption) (by decide))
def topS (i : Nat) : Stmt := PySem.Challenge.pw_showtree_k07_what_holds.main.body.getD i (.Pass ⟨0, 0, 0, 0⟩)
abbrev FnP (K : PySem.W.Frag) (x : Str) (st : Stmt) (f : Addr) (fd : FuncData) : Prop := FunD K x x (defArgs st) (defBody st) (defScope st) [] [] f fd
abbrev sName : Stmt := (topS 23)
abbrev nName : List Str := ["_law_seed", "_law_k", "_law_letters", "_law_size", "_law_word", "_law_j", "_law_spot", "_law_sign"]
theorem scName : FnScope nName ["_law_seed", "_law_k"] (defScope sName) := ⟨rfl, rfl, rfl, by decide +kernel, rfl, by decide +kernel, by decide +kernel⟩
section
variable {P : Program} {w : World} {K : PySem.W.Frag} {mg : Str → Option Value} {base : Heap} {f : Addr} {fd : FuncData} {tb : List Addr} {k : Nat}
def rName (ds : List PyData) (d : PyData) : Prop := ∃ (seed k : Int), ds = [.int seed, .int k] ∧ 0 ≤ k ∧ k < 1000 ∧ d = .str (nameBy seed k)
theorem ok_name (F : FnP K "_law_name_by" sName f fd) (mr : mg "range" = none) : FnOk P w K mg base CX0 (k + 1) f fd ["_law_seed", "_law_k"] (spD K tb 2 rName) := by
  refine fn_ok F scName (by decide) ?_
  rintro ds d ⟨seed, i, rfl, hi0, hi1, rfl⟩ A outer s H E hr
  have nd := scName.nd
  have hs := sizeN_lo seed
  have hp := spotN_lo seed
  refine (bd_cons (sd_set 2 ed_str nd)
    (bd_cons (sd_set 3 ((ed_bin ed_int (ed_bin (ed_var 0) ed_int (by walk_at "bin")) (by walk_at "bin")).is (g := .int (sizeN seed)) rfl) nd) ?_))
  have hw : (wordParts seed).map PyData.str = (List.range (sizeN seed).toNat).map fun (j : Nat) => PyData.str (oneS (letAt (sgnIx seed j))) := by
    unfold wordParts
    rw [List.map_map] <;> rfl
  refine (bd_cons (sd_set 4 ((ed_join (ys := wordParts seed) ed_str (((ed_lcY 5 (List.range (sizeN seed).toNat) (fun (j : Nat) => .int (0 + (j : Int))) (fun (j : Nat) => .str (oneS (letAt (sgnIx seed j)))) rfl nd (id_rng1 mr (ed_var 3) ?_ ?_) ?_
    (blkOk_by (N := nName) (sc := defScope sName) (by decide +kernel)) (fun _ _ _ _ _ => pg_name nd rfl (Or.inl rfl)) ?_)).is ?_) ?_).is (g := .str (word0 seed)) rfl) nd) ?_)
  · omega
  · omega
  · rw [List.length_range]; omega
  · intro j hj s' H' C cl fp
    have hj := List.mem_range.mp hj
    refine (ed_item (ed_var 2) (ed_bin (ed_bin (ed_bin (ed_bin (ed_var 0) ed_int (by walk_at "bin")) (ed_bin ed_int (ed_var 5) (by walk_at "bin")) (by walk_at "bin")) (ed_bin (ed_var 5) (ed_var 5) (by walk_at "bin")) (by walk_at "bin")) ed_int (by walk_at "bin")) (item_so (by decide +kernel) (Int.emod_nonneg _ (by decide)) (Int.emod_lt_of_pos _ (by decide)))).is ?_
    rw [Int.zero_add]
    rfl
  · rw [hw]
  · have e : (wordParts seed).length = (sizeN seed).toNat := by
      unfold wordParts
      rw [List.length_map, List.length_range]
    have e2 : (wordParts seed).map (fun x => x.length) = (List.range (sizeN seed).toNat).map fun _ => 1 := by
      unfold wordParts
      rw [List.map_map] <;> rfl
    rw [e, e2, List.map_const', List.length_range, List.sum_replicate_nat, show ("" : Str).length = 0 from rfl]
    omega
  have lw := word0_len seed
  refine (bd_cons (sd_set 6 ((ed_bin (ed_bin (ed_var 0) ed_int (by walk_at "bin")) (ed_var 3) (bin_mod (by omega))).is (g := .int (spotN seed)) rfl) nd) ?_)
  have hx : (word0 seed).cps.toList.getD (spotN seed).toNat 0 = letAt (sgnIx seed (spotN seed).toNat) := by
    rw [word0_list, List.getD_eq_getElem?_getD, List.getElem?_map, List.getElem?_range (by omega)] <;> rfl
  have m26 : 0 ≤ sgnIx seed (spotN seed).toNat ∧ sgnIx seed (spotN seed).toNat < 26 := ⟨Int.emod_nonneg _ (by decide), Int.emod_lt_of_pos _ (by decide)⟩
  have ho : Builtin.Str.occurrences letters ⟨#[(word0 seed).cps.toList.getD (spotN seed).toNat 0]⟩ 0 letters.length 1 = [(sgnIx seed (spotN seed).toNat).toNat] := by
    rw [hx]
    exact let_occ _ (by omega)
  refine (bd_cons (sd_set 7 ((ed_item (ed_var 2) (ed_bin (ed_bin (ed_index (ed_var 2) (ed_item (ed_var 4) (ed_var 6) (item_so (z := word0 seed) (by omega) hp.1 (by omega))) ho) (ed_bin (ed_var 1) (ed_bin ed_int (ed_bin (ed_bin (ed_var 0) ed_int (by walk_at "bin")) ed_int (by walk_at "bin")) (by walk_at "bin")) (by walk_at "bin")) (by walk_at "bin")) ed_int (by walk_at "bin")) (item_so (by decide +kernel) (Int.emod_nonneg _ (by decide)) (Int.emod_lt_of_pos _ (by decide)))).is (g := .str (signN seed i)) ?_) nd) ?_)
  · rw [Int.toNat_of_nonneg m26.1]
    rfl
  have hc : nameBy seed i = if (decide (i = 2) && (decide (seed / 13312 % 2 = 1) && decide (sizeN seed < 8))) = true then word0 seed ++ signN seed i
      else cutS (word0 seed) none (some (spotN seed)) ++ signN seed i ++ cutS (word0 seed) (some (spotN seed + 1)) none := by
    unfold nameBy
    simp only [Bool.and_eq_true, decide_eq_true_eq]
  have l1 : (cutS (word0 seed) none (some (spotN seed))).length ≤ 8 := by
    rw [str_len, cutS_cut]
    refine Nat.le_trans (List.length_take_le' _ _) ?_
    rw [List.length_drop, ← str_len]
    omega
  have l2 : (cutS (word0 seed) (some (spotN seed + 1)) none).length ≤ 8 := by
    rw [str_len, cutS_cut]
    refine Nat.le_trans (List.length_take_le' _ _) ?_
    rw [List.length_drop, ← str_len]
    omega
  have l3 := signN_len seed i
  refine (bd_if (PWd.pt (wd_and2 (td_cmpD (ed_var 1) ed_int (by walk_at "cmp")) fun hw => (wd_and2 (td_cmpD (ed_bin (ed_bin (ed_var 0) ed_int (by walk_at "bin")) ed_int (by walk_at "bin")) ed_int (by walk_at "cmp")) fun hw => (wd_and1 (td_cmpD (ed_var 3) ed_int (by walk_at "cmp")))))) (fun h =>
    (bd_left ((sd_ret (ed_bin (ed_var 4) (ed_var 7) (bin_addS (by rw [lw, l3]; omega)))).is ?_))) rfl fun h =>
    (bd_left ((sd_ret (ed_bin (ed_bin (ed_slc (ed_var 4) od_none (od_some (ed_var 6)) (slc_s (by omega))) (ed_var 7) (bin_addS ?_)) (ed_slc (ed_var 4) (od_some (ed_bin (ed_var 6) ed_int (by walk_at "bin"))) od_none (slc_s (by omega))) (bin_addS ?_))).is ?_)))
  · rw [hc, if_pos h] <;> rfl
  · exact Nat.le_trans (Nat.add_le_add l1 (Nat.le_of_eq l3)) (by decide)
  · rw [app_len]
    exact Nat.le_trans (Nat.add_le_add (Nat.add_le_add l1 (Nat.le_of_eq l3)) l2) (by decide)
  · rw [hc, if_neg (by rw [h]; exact Bool.false_ne_true)] <;> rfl
end
end K7
namespace K7
open PySem PySem.Spec PyProof.Rows L2 DL LM RM
local macro_rules | `(tactic| walk_at "side") => `(tactic| first | assumption | decide | omega | (simp; done) | (simp; omega))
local macro_rules | `(tactic| walk_at "bin") => `(tactic| first | exact bin_add | exact bin_sub | exact bin_mul (by walk_at "side") | exact bin_fdiv (by walk_at "side") | exact bin_mod (by walk_at "side") | exact bin_catm (by walk_at "side") | exact bin_cat (by walk_at "side") | exact bin_addS (by walk_at "side"))
local macro_rules | `(tactic| walk_at "cmp") => `(tactic| first | exact cmp_lt | exact cmp_le | exact cmp_gt | exact cmp_ge | exact cmp_eqI | exact cmp_neI | exact cmp_eqS | exact cmp_neS | exact cmp_eqB | exact cmp_neB | exact cmp_isN | exact cmp_notN)
local macro_rules | `(tactic| walk_at "slc") => `(tactic| first | exact slc_lm | exact slc_l | exact slc_s (by walk_at "side"))
local macro_rules | `(tactic| walk_at "len") => `(tactic| first | exact len_lm | exact len_l rfl | exact len_t rfl | exact len_s (by walk_at "side"))
local macro_rules | `(tactic| walk_at "room") => `(tactic| exact Room.mono (by assumption) (by decide))
abbrev sCell : Stmt := (topS 22)
theorem scCell : FnScope ["_law_script", "_law_k"] ["_law_script", "_law_k"] (defScope sCell) := ⟨rfl, rfl, rfl, by decide +kernel, rfl, by decide +kernel, by decide +kernel⟩
section
variable {P : Program} {w : World} {K : PySem.W.Frag} {mg : Str → Option Value} {base : Heap} {f : Addr} {fd : FuncData} {tb : List Addr} {k : Nat} {Rx : List PyData → Value → Prop}
def rCell (ds : List PyData) (d : PyData) : Prop := ∃ (ns : List Int) (k : Nat), ds = [.list (ns.map .int), .int k] ∧ d = .int (ns.getD k 0)
theorem ok_cell (F : FnP K "_law_cell_at" sCell f fd) (ml : mg "len" = none) : FnOk P w K mg base CX0 (k + 1) f fd ["_law_script", "_law_k"] (spD K tb 2 rCell) := by
  refine fn_ok F scCell (by decide) ?_
  rintro ds d ⟨ns, i, rfl, rfl⟩ A outer s H E hr
  refine bd_if (td_cmp op_lt rv_lt (ed_var 1) (ed_lenL ml (ed_var 0))) (fun h => bd_one (sd_ret (ed_ixL (ed_var 0) (ed_var 1) ?_))) rfl (fun h => bd_one ((sd_ret ed_int).is ?_))
  · have h1 := of_decide_eq_true h
    rw [List.length_map] at h1
    have h2 : i < ns.length := by omega
    refine atI_nat ?_
    rw [List.getElem?_map, List.getD_eq_getElem?_getD, List.getElem?_eq_getElem h2] <;> rfl
  · have h1 := of_decide_eq_false h
    rw [List.length_map] at h1
    have h2 : ns.length ≤ i := by omega
    rw [List.getD_eq_getElem?_getD, List.getElem?_eq_none h2] <;> rfl
end
end K7
namespace K7
open PySem PySem.Spec PyProof.Rows L2 DL LM
local macro_rules | `(tactic| walk_at "side") => `(tactic| first | assumption | decide | omega | (simp; done) | (simp; omega))
local macro_rules | `(tactic| walk_at "bin") => `(tactic| first | exact bin_add | exact bin_sub | exact bin_mul (by walk_at "side") | exact bin_fdiv (by walk_at "side") | exact bin_mod (by walk_at "side") | exact bin_catm (by walk_at "side") | exact bin_cat (by walk_at "side") | exact bin_addS (by walk_at "side"))
local macro_rules | `(tactic| walk_at "cmp") => `(tactic| first | exact cmp_lt | exact cmp_le | exact cmp_gt | exact cmp_ge | exact cmp_eqI | exact cmp_neI | exact cmp_eqS | exact cmp_neS | exact cmp_eqB | exact cmp_neB | exact cmp_isN | exact cmp_notN)
local macro_rules | `(tactic| walk_at "slc") => `(tactic| first | exact slc_lm | exact slc_l | exact slc_s (by walk_at "side"))
local macro_rules | `(tactic| walk_at "len") => `(tactic| first | exact len_lm | exact len_l rfl | exact len_t rfl | exact len_s (by walk_at "side"))
local macro_rules | `(tactic| walk_at "room") => `(tactic| exact Room.mono (by assumption) (by decide))
abbrev sJoined : Stmt := (topS 24)
abbrev sStep : Stmt := (topS 25)
abbrev sStBy : Stmt := (topS 26)
abbrev nJoined : List Str := ["_law_way", "_law_one", "_law_other"]
theorem scJoined : FnScope nJoined ["_law_way", "_law_one", "_law_other"] (defScope sJoined) := ⟨rfl, rfl, rfl, by decide +kernel, rfl, by decide +kernel, by decide +kernel⟩
abbrev nStep : List Str := ["_law_pile", "_law_cell", "_law_seed", "_law_way", "_law_rest"]
theorem scStep : FnScope nStep ["_law_pile", "_law_cell", "_law_seed"] (defScope sStep) := ⟨rfl, rfl, rfl, by decide +kernel, rfl, by decide +kernel, by decide +kernel⟩
abbrev nStBy : List Str := ["_law_cells", "_law_seed", "_law_pile", "_law_cell"]
theorem scStBy : FnScope nStBy ["_law_cells", "_law_seed"] (defScope sStBy) := ⟨rfl, rfl, rfl, by decide +kernel, rfl, by decide +kernel, by decide +kernel⟩
section
variable {P : Program} {w : World} {K : PySem.W.Frag} {mg : Str → Option Value} {base : Heap} {f : Addr} {fd : FuncData} {tb : List Addr} {k : Nat}
def rJoined (ds : List PyData) (d : PyData) : Prop := ∃ (way : Int) (one other : S), ds = [.int way, enc one, enc other] ∧ d = enc (joined way one other)
theorem ok_joined (F : FnP K "_law_joined" sJoined f fd) : FnOk P w K mg base CX0 (k + 1) f fd ["_law_way", "_law_one", "_law_other"] (spD K tb 3 rJoined) := by
  refine fn_ok F scJoined (by decide) ?_
  rintro ds d ⟨way, one, other, rfl, rfl⟩ A outer s H E hr
  have e0 : 0 ≤ way % 4 := Int.emod_nonneg _ (by decide)
  have e1 : way % 4 < 4 := Int.emod_lt_of_pos _ (by decide)
  refine (bd_if (td_cmpD (ed_bin (ed_bin (ed_var 0) ed_int (by walk_at "bin")) ed_int (by walk_at "bin")) ed_int (by walk_at "cmp")) (fun h =>
    (bd_left ((sd_ret (ed_tup (ad_cons (ed_item (ed_lst (ad_cons ed_str (ad_cons ed_str (ad_cons ed_str (ad_cons ed_str ad_nil)))) (by decide)) (ed_bin (ed_var 0) ed_int (by walk_at "bin")) (item_lo e0 e1)) (ad_cons (ed_var 2) (ad_cons (ed_var 1) ad_nil))) (by walk_at "side"))).is ?_))) rfl fun h =>
  (bd_left ((sd_ret (ed_tup (ad_cons (ed_item (ed_lst (ad_cons ed_str (ad_cons ed_str (ad_cons ed_str (ad_cons ed_str ad_nil)))) (by decide)) (ed_bin (ed_var 0) ed_int (by walk_at "bin")) (item_lo e0 e1)) (ad_cons (ed_var 1) (ad_cons (ed_var 2) ad_nil))) (by walk_at "side"))).is ?_)))
  · rw [op_item]
    unfold joined
    rw [if_pos (of_decide_eq_true h)] <;> rfl
  · rw [op_item]
    unfold joined
    rw [if_neg (of_decide_eq_false h)] <;> rfl
def rStep (ds : List PyData) (d : PyData) : Prop := ∃ (pile : List S) (cell seed : Int), ds = [.list (pile.map enc), .int cell, .int seed] ∧ pile.length ≤ 1000 ∧ d = .list ((stepP seed pile cell).map enc)
theorem ok_step {kn kj : Nat} (F : FnP K "_law_step" sStep f fd) (GN : FnG P w K mg base tb "_law_name_by" ["_law_seed", "_law_k"] kn rName) (GJ : FnG P w K mg base tb "_law_joined" ["_law_way", "_law_one", "_law_other"] kj rJoined)
    (ml : mg "len" = none) (h1 : kn ≤ k) (h2 : kj ≤ k) : FnOk P w K mg base CX0 (k + 1) f fd ["_law_pile", "_law_cell", "_law_seed"] (spD K tb 3 rStep) := by
  refine fn_ok F scStep (by decide) ?_
  rintro ds d ⟨pile, cell, seed, rfl, hl, rfl⟩ A outer s H E hr
  have nd := scStep.nd
  refine (bd_cons (sd_set 3 (ed_bin (ed_var 1) ed_int (by walk_at "bin")) nd)
    (bd_cons (sd_set 4 (ed_bin (ed_var 1) ed_int (by walk_at "bin")) nd) ?_))
  unfold stepP
  refine (bd_if (td_cmpD (ed_var 3) ed_int (by walk_at "cmp")) (fun h => ?_) rfl fun h => ?_)
  · have h := of_decide_eq_true h
    rw [if_pos h]
    exact bd_left (sd_ret (ed_bin (ed_var 0) ((ed_lst (ad_cons (ed_tup (ad_cons ed_str ad_nil) (by decide)) ad_nil) (by decide)).is (g := .list (([S.fls] : List S).map enc)) rfl) (bin_catm (by simp; omega))))
  have n1 := of_decide_eq_false h
  rw [if_neg n1]
  refine (bd_if (PWd.pt (wd_and2 (td_cmpD (ed_var 3) ed_int (by walk_at "cmp")) fun hw => (wd_and1 (td_cmpD (ed_len ml (ed_var 0) (by walk_at "len")) ed_int (by walk_at "cmp"))))) (fun h => ?_) rfl fun h => ?_)
  · simp only [Bool.and_eq_true, decide_eq_true_eq] at h
    have hp : 0 < pile.length := by omega
    rw [if_pos ⟨h.1, hp⟩]
    have r0 : 0 ≤ cell / 10 % (pile.length : Int) := Int.emod_nonneg _ (by omega)
    have r1 : cell / 10 % (pile.length : Int) < pile.length := Int.emod_lt_of_pos _ (by omega)
    exact bd_left (sd_ret (ed_bin (ed_var 0) ((ed_lst (ad_cons (ed_item (ed_var 0) (ed_bin (ed_var 4) (ed_len ml (ed_var 0) (by walk_at "len")) (bin_mod (by omega))) (item_lm (atI_pos .fls r0 r1))) ad_nil) (by simp)).is (g := .list (([pile.getD (cell / 10 % (pile.length : Int)).toNat .fls] : List S).map enc)) rfl) (bin_catm (by simp; omega))))
  have n2 : ¬ (cell % 10 = 5 ∧ 0 < pile.length) := fun z => by
    rw [decide_eq_true z.1, decide_eq_true (show (0 : Int) < pile.length by omega)] at h
    cases h
  rw [if_neg n2]
  refine (bd_if (PWd.pt (wd_and2 (td_cmpD (ed_var 3) ed_int (by walk_at "cmp")) fun hw => (wd_and1 (td_cmpD (ed_len ml (ed_var 0) (by walk_at "len")) ed_int (by walk_at "cmp"))))) (fun h => ?_) rfl fun h => ?_)
  · simp only [Bool.and_eq_true, decide_eq_true_eq] at h
    have hp : 0 < pile.length := by omega
    rw [if_pos ⟨h.1, hp⟩]
    exact bd_left (sd_ret (ed_bin ((ed_slc (ed_var 0) od_none (od_some (ed_neg ed_int)) slc_lm).is (g := .list (pile.dropLast.map enc)) (by rw [cut_init])) ((ed_lst (ad_cons (ed_tup (ad_cons ed_str (ad_cons (ed_item (ed_var 0) (ed_neg ed_int) (item_lm (getLastD_last hp))) (ad_cons (ed_tup (ad_cons ed_str ad_nil) (by decide)) ad_nil))) (by simp)) ad_nil) (by simp)).is (g := .list (([S.bin .thn (pile.getLastD .fls) .fls] : List S).map enc)) rfl) (bin_catm (by simp; omega))))
  have n3 : ¬ (cell % 10 = 6 ∧ 0 < pile.length) := fun z => by
    rw [decide_eq_true z.1, decide_eq_true (show (0 : Int) < pile.length by omega)] at h
    cases h
  rw [if_neg n3]
  refine (bd_if (PWd.pt (wd_and2 (td_cmpD (ed_var 3) ed_int (by walk_at "cmp")) fun hw => (wd_and1 (td_cmpD (ed_len ml (ed_var 0) (by walk_at "len")) ed_int (by walk_at "cmp"))))) (fun h => ?_) rfl fun h => ?_)
  · simp only [Bool.and_eq_true, decide_eq_true_eq] at h
    have hp : 1 < pile.length := by omega
    rw [if_pos ⟨h.1, hp⟩]
    exact bd_left (sd_ret (ed_bin ((ed_slc (ed_var 0) od_none (od_some (ed_neg ed_int)) slc_lm).is (g := .list ((pile.take (pile.length - 2)).map enc)) (by rw [cut_init2]))
      ((ed_lst (ad_cons (ed_call GJ (hr.mono h2) (ad_cons (ed_var 4) (ad_cons (ed_item (ed_var 0) (ed_neg ed_int) (item_lm (atI_two hp))) (ad_cons (ed_item (ed_var 0) (ed_neg ed_int) (item_lm (getLastD_last (by omega)))) ad_nil))) ⟨_, _, _, rfl, rfl⟩) ad_nil) (by simp)).is (g := .list (([joined (cell / 10) (pile.getD (pile.length - 2) .fls) (pile.getLastD .fls)] : List S).map enc)) rfl) (bin_catm (by simp; omega))))
  have n4 : ¬ (6 < cell % 10 ∧ 1 < pile.length) := fun z => by
    rw [decide_eq_true z.1, decide_eq_true (show (1 : Int) < pile.length by omega)] at h
    cases h
  rw [if_neg n4]
  have c0 : 0 ≤ cell / 10 % 4 := Int.emod_nonneg _ (by decide)
  have c1 : cell / 10 % 4 < 4 := Int.emod_lt_of_pos _ (by decide)
  exact bd_left (sd_ret (ed_bin (ed_var 0) ((ed_lst (ad_cons (ed_tup (ad_cons ed_str (ad_cons (ed_call GN (hr.mono h1) (ad_cons (ed_var 2) (ad_cons (ed_bin (ed_var 4) ed_int (by walk_at "bin")) ad_nil)) ⟨_, _, rfl, c0, by omega, rfl⟩) ad_nil)) (by simp)) ad_nil) (by simp)).is (g := .list (([S.nm (nameBy seed (cell / 10 % 4))] : List S).map enc)) rfl) (bin_catm (by simp; omega))))
end
end K7
namespace K7
open PySem PySem.Spec PyProof.Rows L2 DL LM
local macro_rules | `(tactic| walk_at "side") => `(tactic| first | assumption | decide | omega | (simp; done) | (simp; omega))
local macro_rules | `(tactic| walk_at "bin") => `(tactic| first | exact bin_add | exact bin_sub | exact bin_mul (by walk_at "side") | exact bin_fdiv (by walk_at "side") | exact bin_mod (by walk_at "side") | exact bin_catm (by walk_at "side") | exact bin_cat (by walk_at "side") | exact bin_addS (by walk_at "side"))
local macro_rules | `(tactic| walk_at "cmp") => `(tactic| first | exact cmp_lt | exact cmp_le | exact cmp_gt | exact cmp_ge | exact cmp_eqI | exact cmp_neI | exact cmp_eqS | exact cmp_neS | exact cmp_eqB | exact cmp_neB | exact cmp_isN | exact cmp_notN)
local macro_rules | `(tactic| walk_at "slc") => `(tactic| first | exact slc_lm | exact slc_l | exact slc_s (by walk_at "side"))
local macro_rules | `(tactic| walk_at "len") => `(tactic| first | exact len_lm | exact len_l rfl | exact len_t rfl | exact len_s (by walk_at "side"))
local macro_rules | `(tactic| walk_at "room") => `(tactic| exact Room.mono (by assumption) (by decide))
section
variable {P : Program} {w : World} {K : PySem.W.Frag} {mg : Str → Option Value} {base : Heap} {f : Addr} {fd : FuncData} {tb : List Addr} {k : Nat}
def rStBy (ds : List PyData) (d : PyData) : Prop := ∃ (cells : List Int) (seed : Int), ds = [.list (cells.map .int), .int seed] ∧ cells.length ≤ 60 ∧ d = enc (stBy cells seed)
theorem ok_stBy {kn ks : Nat} (F : FnP K "_law_statement_by" sStBy f fd) (GN : FnG P w K mg base tb "_law_name_by" ["_law_seed", "_law_k"] kn rName) (GS : FnG P w K mg base tb "_law_step" ["_law_pile", "_law_cell", "_law_seed"] ks rStep)
    (ml : mg "len" = none) (h1 : kn ≤ k) (h2 : ks ≤ k) : FnOk P w K mg base CX0 (k + 1) f fd ["_law_cells", "_law_seed"] (spD K tb 2 rStBy) := by
  refine fn_ok F scStBy (by decide) ?_
  rintro ds d ⟨cells, seed, rfl, hl, rfl⟩ A outer s H E hr
  have nd := scStBy.nd
  have pl := pileOf_pl seed cells
  have plen := pileOf_len seed cells
  refine bd_cons (sd_set 2 ((ed_lst ad_nil (by decide)).is (g := .list (([] : List S).map enc)) rfl) nd) ?_
  -- the cells, one by one
  refine bd_cons (es := [.dat (.list (cells.map .int)), .dat (.int seed), .dat (.list ((pileOf seed cells).map enc)), .no]) ?_ ?_
  · refine (sd_for (items := cells.map .int) 3 (fun i => [.dat (.list (cells.map .int)), .dat (.int seed), .dat (.list (((cells.take i).foldl (stepP seed) []).map enc)), .no]) PassesOwn.never rfl (id_list (ed_var 0)) nd rfl (fun i d e => ?_)).is ?_
    · rw [List.getElem?_map] at e
      cases q : cells[i]? with
      | none =>
        rw [q] at e
        cases e
      | some c =>
        rw [q] at e
        cases e
        have hi := (List.getElem?_eq_some_iff.mp q).1
        have tk : cells.take (i + 1) = cells.take i ++ [c] := by rw [List.take_add_one, q] <;> rfl
        have ln := fold_len seed (cells.take i) []
        rw [List.length_nil, List.length_take] at ln
        rw [tk, List.foldl_append]
        exact bd_wk (bd_cons (sd_set 2 (ed_call GS (hr.mono h2) (ad_cons (ed_var 2) (ad_cons (ed_var 3) (ad_cons (ed_var 1) ad_nil))) ⟨_, _, _, rfl, by omega, rfl⟩) nd) bd_nil) (.same _ (.same _ (.same _ (.no _ .nil))))
    · rw [List.length_map, List.take_length]
      rfl
  -- thens from the right
  generalize hp : pileOf seed cells = p at pl plen
  refine bd_cons (es := [.dat (.list (cells.map .int)), .dat (.int seed), .dat (.list ((thens (p.length - 1) p).map enc)), .no]) ?_ ?_
  · refine sd_while (p.length - 1) (fun i => [.dat (.list (cells.map .int)), .dat (.int seed), .dat (.list ((thens i p).map enc)), .no]) PassesOwn.never rfl (fun i hi => ⟨?_, ?_⟩) ?_
    · have l := thens_len p i (by omega)
      exact (td_cmpD (ed_len ml (ed_var 2) (by walk_at "len")) ed_int (by walk_at "cmp")).is (decide_eq_true (by omega))
    · have l := thens_len p i (by omega)
      refine (bd_cons (sd_set 2 (ed_bin ((ed_slc (ed_var 2) od_none (od_some (ed_neg ed_int)) slc_lm).is (g := .list (((thens i p).take ((thens i p).length - 2)).map enc)) (by rw [cut_init2])) ((ed_lst (ad_cons (ed_tup (ad_cons ed_str (ad_cons (ed_item (ed_var 2) (ed_neg ed_int) (item_lm (atI_two (by omega)))) (ad_cons (ed_item (ed_var 2) (ed_neg ed_int) (item_lm (getLastD_last (by omega)))) ad_nil))) (by simp)) ad_nil) (by simp)).is (g := .list (([S.bin .thn ((thens i p).getD ((thens i p).length - 2) .fls) ((thens i p).getLastD .fls)] : List S).map enc)) rfl) (bin_catm (by simp; omega))) nd)
        bd_nil).is ?_
      rfl
    · refine (td_cmpD (ed_len ml (ed_var 2) (by walk_at "len")) ed_int (by walk_at "cmp")).is (decide_eq_false ?_)
      by_cases h : 0 < p.length
      · have l := thens_len p (p.length - 1) (by omega)
        omega
      · have e : p = [] := List.eq_nil_of_length_eq_zero (by omega)
        rw [e]
        decide
  have qs : Pl cells.length (thens (p.length - 1) p) := by
    by_cases h : 0 < p.length
    · exact thens_pl pl _ (by omega)
    · have e : p = [] := List.eq_nil_of_length_eq_zero (by omega)
      rw [e] at pl ⊢
      exact pl
  have ll : (thens (p.length - 1) p).length ≤ 1 := by
    by_cases h : 0 < p.length
    · have l := thens_len p (p.length - 1) (by omega)
      omega
    · have e : p = [] := List.eq_nil_of_length_eq_zero (by omega)
      rw [e]
      decide
  have es : stBy cells seed = match thens (p.length - 1) p with
      | [] => .nm (nameBy seed 0)
      | s :: _ => s := by
    unfold stBy
    rw [hp] <;> rfl
  rw [es]
  generalize thens (p.length - 1) p = q at qs ll
  refine (bd_if (td_cmpD (ed_var 2) (ed_lst ad_nil (by decide)) (cmp_eqD hr (encs_shaped qs.2 (by have := qs.1; omega)) (by decide))) (fun h =>
    (bd_left ((sd_ret (ed_tup (ad_cons ed_str (ad_cons (ed_call GN (hr.mono h1) (ad_cons (ed_var 1) (ad_cons ed_int ad_nil)) ⟨_, _, rfl, by decide, by decide, rfl⟩) ad_nil)) (by simp))).is ?_))) rfl fun h => ?_)
  · rw [eqv_nil] at h
    cases q with
    | nil => rfl
    | cons s r => cases h
  · rw [eqv_nil] at h
    cases q with
    | nil => cases h
    | cons s r => exact bd_left (sd_ret (ed_item (ed_var 2) ed_int (item_l (xs := enc s :: r.map enc) (f := enc s) (atI_nat (j := 0) rfl))))
end
end K7
namespace K7
open PySem PySem.Spec PyProof.Rows L2 DL LM RM
local macro_rules | `(tactic| walk_at "side") => `(tactic| first | assumption | decide | omega | (simp; done) | (simp; omega))
local macro_rules | `(tactic| walk_at "bin") => `(tactic| first | exact bin_add | exact bin_sub | exact bin_mul (by walk_at "side") | exact bin_fdiv (by walk_at "side") | exact bin_mod (by walk_at "side") | exact bin_catm (by walk_at "side") | exact bin_cat (by walk_at "side") | exact bin_addS (by walk_at "side"))
local macro_rules | `(tactic| walk_at "cmp") => `(tactic| first | exact cmp_lt | exact cmp_le | exact cmp_gt | exact cmp_ge | exact cmp_eqI | exact cmp_neI | exact cmp_eqS | exact cmp_neS | exact cmp_eqB | exact cmp_neB | exact cmp_isN | exact cmp_notN)
local macro_rules | `(tactic| walk_at "slc") => `(tactic| first | exact slc_lm | exact slc_l | exact slc_s (by walk_at "side"))
local macro_rules | `(tactic| walk_at "len") => `(tactic| first | exact len_lm | exact len_l rfl | exact len_t rfl | exact len_s (by walk_at "side"))
local macro_rules | `(tactic| walk_at "room") => `(tactic| exact Room.mono (by assumption) (by decide))
abbrev sIsNm : Stmt := (topS 6)
theorem scIsNm : FnScope ["thing"] ["thing"] (defScope sIsNm) := ⟨rfl, rfl, rfl, by decide +kernel, rfl, by decide +kernel, by decide +kernel⟩
section
variable {P : Program} {w : World} {K : PySem.W.Frag} {mg : Str → Option Value} {base : Heap} {f : Addr} {fd : FuncData} {tb : List Addr} {k : Nat}
def szD : PyData → Prop
  | .str z => z.length ≤ 16000000
  | _ => True
def rIsNm (ds : List PyData) (d : PyData) : Prop := ∃ e : PyData, ds = [e] ∧ szD e ∧ d = .bool (isNmD e)
theorem ok_isNm {C Pt : Addr} (F : FnP K "is_name" sIsNm f fd) (hP : Pt ∈ tb) (TB : GxR.TabB base mg C Pt) (hcode : fd.code = .ref C) (ml : mg "len" = none) (mi : mg "isinstance" = none) (ms : mg "str" = none) (ma : mg "all" = none) (mL : ∃ t, mg "LONGEST_NAME" = some (.int 8 t)) :
    FnOk P w K mg base CX0 (k + 1) f fd ["thing"] (spD K tb 1 rIsNm) := by
  refine fn_ok F scIsNm (by decide) ?_
  rintro ds d ⟨e, rfl, hz, rfl⟩ A outer s H E hr
  have other : (tyD e == "str") = false → isNmD e = false → kitB (tyD e) "str" = some false → PBd (cxOf CX0 P w K mg base ["thing"] "is_name" (defScope sIsNm) f fd.code A outer s H E).nox tb W0 (defBody sIsNm) (sd ["thing"] [e]) (.rt (.bool (isNmD e))) := fun h1 h2 h3 => by
    rw [h2]
    exact (bd_if (PWd.pt (wd_ort (td_not (td_val (ed_isi (T := "str") h3 mi ms (ed_var 0)))))) (fun h => bd_left (sd_ret ed_bl)) rfl fun h => nomatch h)
  cases e with
  | str z =>
    have hz' : z.length ≤ 16000000 := hz
    refine (bd_if (PWd.pt (wd_or2 (td_not (td_val (ed_isi (T := "str") (k := true) (d := .str z) (by show kitB "str" "str" = some true; decide +kernel) mi ms (ed_var 0)))) fun hw => (wd_or1 (td_not (td_chain ed_int (ed_len ml (ed_var 0) (by walk_at "len")) (ed_gInt mL) (by walk_at "cmp") (by walk_at "cmp")))))) (fun h => bd_left ((sd_ret ed_bl).is ?_)) rfl fun h => ?_)
    · show Out.rt (.bool false) = .rt (.bool (isNm z))
      have h' : (decide ((1 : Int) ≤ (z.length : Int)) && decide ((z.length : Int) ≤ 8)) = false := by
        rw [Bool.not_true, Bool.false_or] at h
        revert h
        cases (decide ((1 : Int) ≤ (z.length : Int)) && decide ((z.length : Int) ≤ 8)) <;> intro h
        · rfl
        · cases h
      have e1 : decide ((1 : Int) ≤ (z.length : Int)) = decide (1 ≤ z.length) := decide_eq_decide.mpr (by omega)
      have e2 : decide ((z.length : Int) ≤ 8) = decide (z.length ≤ 8) := decide_eq_decide.mpr (by omega)
      rw [e1, e2] at h'
      unfold isNm
      rw [h'] <;> rfl
    · have h' : (decide ((1 : Int) ≤ (z.length : Int)) && decide ((z.length : Int) ≤ 8)) = true := by simpa using h
      have e1 : decide ((1 : Int) ≤ (z.length : Int)) = decide (1 ≤ z.length) := decide_eq_decide.mpr (by omega)
      have e2 : decide ((z.length : Int) ≤ 8) = decide (z.length ≤ 8) := decide_eq_decide.mpr (by omega)
      rw [e1, e2] at h'
      refine bd_left ((sd_ret (ed_allS hP hr ma TB hcode ⟨rfl, rfl, by decide +kernel, rfl, rfl, fun y hy e => absurd e (by revert y; decide +kernel)⟩ (ed_var 0) (elt_low rfl rfl))).is ?_)
      show _ = Out.rt (.bool (isNm z))
      unfold isNm
      rw [h'] <;> rfl
  | none => exact other rfl rfl (by decide +kernel)
  | bool b => exact other rfl rfl (by show kitB "bool" "str" = some false; decide +kernel)
  | int b => exact other rfl rfl (by show kitB "int" "str" = some false; decide +kernel)
  | list b => exact other rfl rfl (by show kitB "list" "str" = some false; decide +kernel)
  | tuple b => exact other rfl rfl (by show kitB "tuple" "str" = some false; decide +kernel)
  | dict b => exact other rfl rfl (by show kitB "dict" "str" = some false; decide +kernel)
end
end K7
namespace K7
open PySem PySem.Spec PyProof.Rows L2 DL LM RM PT
local macro_rules | `(tactic| walk_at "side") => `(tactic| first | assumption | decide | omega | (simp; done) | (simp; omega))
local macro_rules | `(tactic| walk_at "bin") => `(tactic| first | exact bin_add | exact bin_sub | exact bin_mul (by walk_at "side") | exact bin_fdiv (by walk_at "side") | exact bin_mod (by walk_at "side") | exact bin_catm (by walk_at "side") | exact bin_cat (by walk_at "side") | exact bin_addS (by walk_at "side"))
local macro_rules | `(tactic| walk_at "cmp") => `(tactic| first | exact cmp_lt | exact cmp_le | exact cmp_gt | exact cmp_ge | exact cmp_eqI | exact cmp_neI | exact cmp_eqS | exact cmp_neS | exact cmp_eqB | exact cmp_neB | exact cmp_isN | exact cmp_notN)
local macro_rules | `(tactic| walk_at "slc") => `(tactic| first | exact slc_lm | exact slc_l | exact slc_s (by walk_at "side"))
local macro_rules | `(tactic| walk_at "len") => `(tactic| first | exact len_lm | exact len_l rfl | exact len_t rfl | exact len_s (by walk_at "side"))
local macro_rules | `(tactic| walk_at "room") => `(tactic| exact Room.mono (by assumption) (by decide))
abbrev sBeg : Stmt := (topS 9)
abbrev sFormed : Stmt := (topS 10)
abbrev sHalves : Stmt := (topS 11)
abbrev nBeg : List Str := ["thing", "words"]
abbrev nFormed : List Str := ["thing", "word"]
theorem scBeg : FnScope nBeg ["thing"] (defScope sBeg) := ⟨rfl, rfl, rfl, by decide +kernel, rfl, by decide +kernel, by decide +kernel⟩
theorem scFormed : FnScope nFormed ["thing"] (defScope sFormed) := ⟨rfl, rfl, rfl, by decide +kernel, rfl, by decide +kernel, by decide +kernel⟩
theorem scHalves : FnScope ["formed"] ["formed"] (defScope sHalves) := ⟨rfl, rfl, rfl, by decide +kernel, rfl, by decide +kernel, by decide +kernel⟩
def joinW : List Str := ["and", "or", "then"]
section
variable {P : Program} {w : World} {K : PySem.W.Frag} {mg : Str → Option Value} {base : Heap} {f : Addr} {fd : FuncData} {tb : List Addr} {k : Nat}
/-- the module's tuple JOINING -/
structure Joins (K : PySem.W.Frag) (mg : Str → Option Value) : Prop where
  ex : ∃ A : Addr, mg "JOINING" = some (.ref A) ∧ ∀ Hd, Dp K Hd (.ref A) (.tuple (joinW.map .str))
theorem word_in (o : Op) : decide (o.word ∈ joinW) = true := by cases o <;> decide +kernel
def rFormed (ds : List PyData) (d : PyData) : Prop := ∃ s : S, ds = [enc s] ∧ Ok s ∧ d = .bool true
theorem ok_formed {kn : Nat} (F : FnP K "is_formed" sFormed f fd) (G : FnG P w K mg base tb "is_name" ["thing"] kn rIsNm) (T : Joins K mg) (ml : mg "len" = none) (mi : mg "isinstance" = none) (mt : mg "tuple" = none) (h1 : kn ≤ k) : FnOk P w K mg base CX0 (k + 1) f fd ["thing"] (spD K tb 1 rFormed) := by
  obtain ⟨A0, gJ, hJ⟩ := T.ex
  refine fn_ok F scFormed (by decide) ?_
  rintro ds d ⟨s, rfl, hok, rfl⟩ A outer s' H E hr
  have nd := scFormed.nd
  cases s with
  | nm v =>
    refine (bd_if (k := false) (PWd.pt (wd_orf (td_not (k := true) (td_val (ed_isi (T := "tuple") (d := enc (.nm v)) (k := true) (by show kitB "tuple" "tuple" = some true; decide +kernel) mi mt (ed_var 0)))) (wd_or1 ((td_cmpD (ed_len (n := 2) ml (ed_var 0) (len_t rfl)) ed_int cmp_eqI).is (by decide))))) (fun h => nomatch h) rfl fun h => ?_)
    refine bd_cons (sd_set 1 (ed_item (d := enc (.nm v)) (f := .str "name") (ed_var 0) ed_int (item_t (atI_nat (j := 0) rfl))) nd) ?_
    refine (bd_if (k := true) ((td_cmpD (ed_var 1) ed_str (by walk_at "cmp")).is (decide_eq_true rfl)) (fun h => ?_) rfl fun h => nomatch h)
    exact bd_left (sd_ret (ed_and (k := true) (ed_cmpD (k := true) (ed_len (n := 2) ml (ed_var 0) (len_t rfl)) ed_int (cmp_eqI.is (by decide))) (fun hv => (ed_one (ed_call G (hr.mono h1) (ad_cons (ed_item (d := enc (.nm v)) (f := .str v) (ed_var 0) ed_int (item_t (atI_nat (j := 1) rfl))) ad_nil) ⟨_, rfl, Nat.le_trans hok.2.1 (by decide), (congrArg PyData.bool (isNm_ok.mpr hok)).symm⟩))) (fun z => nomatch z)))
  | fls =>
    refine (bd_if (k := false) (PWd.pt (wd_orf (td_not (k := true) (td_val (ed_isi (T := "tuple") (d := enc .fls) (k := true) (by show kitB "tuple" "tuple" = some true; decide +kernel) mi mt (ed_var 0)))) (wd_or1 ((td_cmpD (ed_len (n := 1) ml (ed_var 0) (len_t rfl)) ed_int cmp_eqI).is (by decide))))) (fun h => nomatch h) rfl fun h => ?_)
    refine bd_cons (sd_set 1 (ed_item (d := enc .fls) (f := .str "false") (ed_var 0) ed_int (item_t (atI_nat (j := 0) rfl))) nd) ?_
    refine (bd_if (k := false) ((td_cmpD (ed_var 1) ed_str (by walk_at "cmp")).is (decide_eq_false (by decide +kernel))) (fun h => nomatch h) rfl fun h => ?_)
    refine (bd_if (k := true) ((td_cmpD (ed_var 1) ed_str (by walk_at "cmp")).is (decide_eq_true rfl)) (fun h => ?_) rfl fun h => nomatch h)
    exact bd_left (sd_ret (ed_cmpD (k := true) (ed_len (n := 1) ml (ed_var 0) (len_t rfl)) ed_int (cmp_eqI.is (by decide))))
  | bin o a b =>
    refine (bd_if (k := false) (PWd.pt (wd_orf (td_not (k := true) (td_val (ed_isi (T := "tuple") (d := enc (.bin o a b)) (k := true) (by show kitB "tuple" "tuple" = some true; decide +kernel) mi mt (ed_var 0)))) (wd_or1 ((td_cmpD (ed_len (n := 3) ml (ed_var 0) (len_t rfl)) ed_int cmp_eqI).is (by decide))))) (fun h => nomatch h) rfl fun h => ?_)
    refine bd_cons (sd_set 1 (ed_item (d := enc (.bin o a b)) (f := .str o.word) (ed_var 0) ed_int (item_t (atI_nat (j := 0) rfl))) nd) ?_
    refine (bd_if (k := false) ((td_cmpD (ed_var 1) ed_str (by walk_at "cmp")).is (decide_eq_false (word_ne o).1)) (fun h => nomatch h) rfl fun h => ?_)
    refine (bd_if (k := false) ((td_cmpD (ed_var 1) ed_str (by walk_at "cmp")).is (decide_eq_false (word_ne o).2)) (fun h => nomatch h) rfl fun h => ?_)
    exact bd_left (sd_ret (ed_and (k := true) (ed_cmpD (k := true) (ed_len (n := 3) ml (ed_var 0) (len_t rfl)) ed_int (cmp_eqI.is (by decide))) (fun hv => (ed_one (ed_cmpD (k := true) (ed_var 1) (ed_gRef gJ hJ) (cmp_inStrT.is (word_in o))))) (fun z => nomatch z)))
def rHalves (ds : List PyData) (d : PyData) : Prop := ∃ s : S, ds = [enc s] ∧ d = .list ((halvesS s).map enc)
theorem ok_halves (F : FnP K "halves" sHalves f fd) (T : Joins K mg) : FnOk P w K mg base CX0 (k + 1) f fd ["formed"] (spD K tb 1 rHalves) := by
  obtain ⟨A0, gJ, hJ⟩ := T.ex
  refine fn_ok F scHalves (by decide) ?_
  rintro ds d ⟨s, rfl, rfl⟩ A outer s' H E hr
  cases s with
  | nm v => exact (bd_if (k := false) (td_cmpD (ed_item (d := enc (.nm v)) (f := .str "name") (ed_var 0) ed_int (item_t (atI_nat (j := 0) rfl))) (ed_gRef gJ hJ) (cmp_inStrT.is (by decide +kernel))) (fun h => nomatch h) rfl fun h => bd_left ((sd_ret (ed_lst ad_nil (by decide))).is rfl))
  | fls => exact (bd_if (k := false) (td_cmpD (ed_item (d := enc .fls) (f := .str "false") (ed_var 0) ed_int (item_t (atI_nat (j := 0) rfl))) (ed_gRef gJ hJ) (cmp_inStrT.is (by decide +kernel))) (fun h => nomatch h) rfl fun h => bd_left ((sd_ret (ed_lst ad_nil (by decide))).is rfl))
  | bin o a b => exact (bd_if (k := true) (td_cmpD (ed_item (d := enc (.bin o a b)) (f := .str o.word) (ed_var 0) ed_int (item_t (atI_nat (j := 0) rfl))) (ed_gRef gJ hJ) (cmp_inStrT.is (word_in o))) (fun h => bd_left ((sd_ret (ed_lst (ad_cons (ed_item (d := enc (.bin o a b)) (f := enc a) (ed_var 0) ed_int (item_t (atI_nat (j := 1) rfl))) (ad_cons (ed_item (d := enc (.bin o a b)) (f := enc b) (ed_var 0) ed_int (item_t (atI_nat (j := 2) rfl))) ad_nil)) (by simp))).is rfl)) rfl fun h => nomatch h)
def rBeg (ds : List PyData) (d : PyData) : Prop := ∃ s : S, ds = [enc s] ∧ Ok s ∧ dep s ≤ 60 ∧ d = .str (begT s)
theorem ok_beg {kf : Nat} (F : FnP K "beginning" sBeg f fd) (G : FnG P w K mg base tb "is_formed" ["thing"] kf rFormed) (T : Joins K mg) (h1 : kf ≤ k) : FnOk P w K mg base CX0 (k + 1) f fd ["thing"] (spD K tb 1 rBeg) := by
  obtain ⟨A0, gJ, hJ⟩ := T.ex
  refine fn_ok F scBeg (by decide) ?_
  rintro ds d ⟨s, rfl, hok, hd, rfl⟩ A outer s' H E hr
  have nd := scBeg.nd
  have hl := spW_len s
  have ho := spE_ok s hok
  refine bd_own 1 ?_ nd
  refine bd_cons (es := [.dat (enc (spE s)), .own ((spW s).map .str)]) ?_ ?_
  · refine (sd_while (spW s).length (fun i => [.dat (enc (nthA s i)), .own (((spW s).take i).map .str)]) PassesOwn.never (by show [Sl.dat (enc (nthA s 0)), Sl.own _] = _; rw [show nthA s 0 = s by cases s <;> rfl] <;> rfl) (fun i hi => ⟨?_, ?_⟩) ?_).is (by rw [nthA_end, List.take_length])
    · obtain ⟨o, a, b, e1, e2, e3⟩ := nthA_at s i hi
      have hk := nthA_ok s i hok
      rw [e1] at hk ⊢
      exact PWd.pt (wd_andt (td_val (ed_call G (hr.mono h1) (ad_cons (ed_var 0) ad_nil) ⟨_, rfl, hk, rfl⟩)) (wd_and1 (td_cmpD (ed_item (d := enc (.bin o a b)) (f := .str o.word) (ed_var 0) ed_int (item_t (atI_nat (j := 0) rfl))) (ed_gRef gJ hJ) (cmp_inStrT.is (word_in o)))))
    · obtain ⟨o, a, b, e1, e2, e3⟩ := nthA_at s i hi
      rw [e1, e2]
      have tk : (spW s).take (i + 1) = (spW s).take i ++ [o.word] := by rw [List.take_add_one, e3] <;> rfl
      rw [tk, List.map_append]
      exact (bd_cons (sd_append 1 (ed_item (d := enc (.bin o a b)) (f := .str o.word) (ed_var 0) ed_int (item_t (atI_nat (j := 0) rfl))) (by rw [List.length_map, List.length_take]; omega)) (bd_cons (sd_set 0 (ed_item (d := enc (.bin o a b)) (f := enc a) (ed_var 0) ed_int (item_t (atI_nat (j := 1) rfl))) nd) bd_nil)).is rfl
    · rw [nthA_end]
      rcases spE_no s with ⟨v, e⟩ | e
      · rw [e] at ho ⊢
        exact PWd.pt (wd_andt (td_val (ed_call G (hr.mono h1) (ad_cons (ed_var 0) ad_nil) ⟨_, rfl, ho, rfl⟩)) (wd_and1 (td_cmpD (ed_item (d := enc (.nm v)) (f := .str "name") (ed_var 0) ed_int (item_t (atI_nat (j := 0) rfl))) (ed_gRef gJ hJ) (cmp_inStrT.is (by decide +kernel)))))
      · rw [e] at ho ⊢
        exact PWd.pt (wd_andt (td_val (ed_call G (hr.mono h1) (ad_cons (ed_var 0) ad_nil) ⟨_, rfl, ho, rfl⟩)) (wd_and1 (td_cmpD (ed_item (d := enc .fls) (f := .str "false") (ed_var 0) ed_int (item_t (atI_nat (j := 0) rfl))) (ed_gRef gJ hJ) (cmp_inStrT.is (by decide +kernel)))))
  refine bd_cons (es := [.dat (enc (spE s)), .own ((begW s).map .str)]) ?_ ?_
  · refine sd_if (k := true) (td_val (ed_call G (hr.mono h1) (ad_cons (ed_var 0) ad_nil) ⟨_, rfl, ho, rfl⟩)) (fun h => ?_) fun h => nomatch h
    unfold begW
    rw [List.map_append]
    rcases spE_no s with ⟨v, e⟩ | e
    · rw [e]
      exact (bd_cons (sd_extendT 1 (zs := (tailW (.nm v)).map .str) (ed_var 0) (by rw [List.length_map]; show _ + 2 ≤ _; omega)) bd_nil).is rfl
    · rw [e]
      exact (bd_cons (sd_extendT 1 (zs := (tailW .fls).map .str) (ed_var 0) (by rw [List.length_map]; show _ + 1 ≤ _; omega)) bd_nil).is rfl
  refine bd_freeze 1 (bd_left (sd_ret (ed_join (ys := begW s) ed_str (ed_var 1) ?_)))
  have l1 := sum_small (begW s) (begW_small hok)
  have l2 := begW_len s
  have l3 : (" " : Str).length = 1 := rfl
  rw [l3]
  omega
end
end K7
namespace K7
open PySem PySem.Spec PyProof.Rows L2
def dD (x : Str) (i : Nat) : He.DefD := ⟨(x, none), x, x, defArgs (topS i), defBody (topS i), defScope (topS i), [], []⟩
def dM (c x q : Str) (j i : Nat) : He.DefD := ⟨(c, some x), x, q, defArgs (inClass (topS j) i), defBody (inClass (topS j) i), defScope (inClass (topS j) i), [], []⟩
def fn : List He.DefD := [dD "is_name" 6, dD "numbered" 7, dD "beginning" 9, dD "is_formed" 10, dD "halves" 11, dD "shelved" 12, dD "shelve" 13, dD "with_numbers" 14, dD "is_number_below" 16, dD "holds" 17, dD "refuse_missing" 18, dD "truths_of" 19, dD "truths_of_then" 20, dD "_law_cell_at" 22, dD "_law_name_by" 23, dD "_law_joined" 24, dD "_law_step" 25, dD "_law_statement_by" 26, dD "_law_tree_by" 27, dD "_law_table" 28, dD "_law_long" 29, dD "_law_chain" 30, dD "law" 31, dM "Shelf" "__init__" "Shelf.__init__" 8 0, dM "Shelf" "number" "Shelf.number" 8 1, dM "Shelf" "takes" "Shelf.takes" 8 2]
def fa : List He.Fa := [.glo "is_name", .glo "numbered", .glo "beginning", .glo "is_formed", .glo "halves", .glo "shelved", .glo "shelve", .glo "with_numbers", .glo "is_number_below", .glo "holds", .glo "refuse_missing", .glo "truths_of", .glo "truths_of_then", .glo "_law_cell_at", .glo "_law_name_by", .glo "_law_joined", .glo "_law_step", .glo "_law_statement_by", .glo "_law_tree_by", .glo "_law_table", .glo "_law_long", .glo "_law_chain", .glo "law", .int "LONGEST_NAME" 8, .free "len", .free "isinstance", .free "str", .free "tuple", .free "all", .free "range", .free "list", .free "int", .free "bool", .free "zip", .free "min", .free "sorted", .glo "Shelf", .glo "JOINING", .cls "Shelf", .noat "Shelf" "rows", .noat "Shelf" "things", .meth "Shelf" "takes", .meth "Shelf" "number", .mkr "Shelf"]
def ts : List He.Tab := []
def tf : List He.Defn := [("is_name", none)]

def ex (K : PySem.W.Frag) : Bool := He.tupB K "JOINING" [.str "and", .str "or", .str "then"]
abbrev R : PySem.W.OpenRow := PySem.W.OpenLaw.row PySem.Challenge.rw_showtree_k07_what_holds
abbrev hk : PySem.W.Hook := He.hookX 6 fa fn ts tf ex
def ob (s : PySem.W.SharedT) : He.AlX := He.obsX 6 fa fn ts tf ex (HandSHeadRun.getT s)
theorem ob_eq (s : PySem.W.SharedT) : ob s = hk.obs s.abs := He.obsX_eq (HandSHeadRun.getT_eq s)
def names : List Str := ["ShowError", "NoWorld", "LONGEST_NAME", "JOINING", "is_name", "numbered", "Shelf", "beginning", "is_formed", "halves", "shelved", "shelve", "with_numbers", "is_number_below", "holds", "refuse_missing", "truths_of", "truths_of_then", "_law_cell_at", "_law_name_by", "_law_joined", "_law_step", "_law_statement_by", "_law_tree_by", "_law_table", "_law_long", "_law_chain"]
theorem run (w : World) : HandSHeadRun.RunEq R (PySem.W.view R.prog [31]) hk ob 2000 names w :=
  PySem.W.byRow2 "special-get-raises" (P := fun w => HandSHeadRun.RunEq R (PySem.W.view R.prog [31]) hk ob 2000 names w) (fun w => by
    intro os
    kernel_rfl) (fun w => by
    intro os
    kernel_rfl) w
end K7
namespace K7
open PySem PySem.Spec PyProof.Rows L2 DL LM RM PT SHLF
local macro_rules | `(tactic| walk_at "side") => `(tactic| first | assumption | decide | omega | (simp; done) | (simp; omega))
local macro_rules | `(tactic| walk_at "bin") => `(tactic| first | exact bin_add | exact bin_sub | exact bin_mul (by walk_at "side") | exact bin_fdiv (by walk_at "side") | exact bin_mod (by walk_at "side") | exact bin_catm (by walk_at "side") | exact bin_cat (by walk_at "side") | exact bin_addS (by walk_at "side"))
local macro_rules | `(tactic| walk_at "cmp") => `(tactic| first | exact cmp_lt | exact cmp_le | exact cmp_gt | exact cmp_ge | exact cmp_eqI | exact cmp_neI | exact cmp_eqS | exact cmp_neS | exact cmp_eqB | exact cmp_neB | exact cmp_isN | exact cmp_notN)
local macro_rules | `(tactic| walk_at "slc") => `(tactic| first | exact slc_lm | exact slc_l | exact slc_s (by walk_at "side"))
local macro_rules | `(tactic| walk_at "len") => `(tactic| first | exact len_lm | exact len_l rfl | exact len_t rfl | exact len_s (by walk_at "side"))
local macro_rules | `(tactic| walk_at "room") => `(tactic| exact Room.mono (by assumption) (by decide))
abbrev s_Shelf___init__ : Stmt := inClass (topS 8) 0
abbrev n_Shelf___init__ : List Str := ["self"]
abbrev p_Shelf___init__ : List Str := ["self"]
theorem sc_Shelf___init__ : FnScope n_Shelf___init__ p_Shelf___init__ (defScope s_Shelf___init__) := ⟨rfl, rfl, rfl, by decide +kernel, rfl, by decide +kernel, by decide +kernel⟩
abbrev s_Shelf_number : Stmt := inClass (topS 8) 1
abbrev n_Shelf_number : List Str := ["self", "thing", "row"]
abbrev p_Shelf_number : List Str := ["self", "thing"]
theorem sc_Shelf_number : FnScope n_Shelf_number p_Shelf_number (defScope s_Shelf_number) := ⟨rfl, rfl, rfl, by decide +kernel, rfl, by decide +kernel, by decide +kernel⟩
abbrev s_Shelf_takes : Stmt := inClass (topS 8) 2
abbrev n_Shelf_takes : List Str := ["self", "thing"]
abbrev p_Shelf_takes : List Str := ["self", "thing"]
theorem sc_Shelf_takes : FnScope n_Shelf_takes p_Shelf_takes (defScope s_Shelf_takes) := ⟨rfl, rfl, rfl, by decide +kernel, rfl, by decide +kernel, by decide +kernel⟩
abbrev FnM (K : PySem.W.Frag) (x q : Str) (st : Stmt) (f : Addr) (fd : FuncData) : Prop := FunD K x q (defArgs st) (defBody st) (defScope st) [] [] f fd
section
variable {P : Program} {w : World} {K : PySem.W.Frag} {mg : Str → Option Value} {base : Heap} {f C : Addr} {fd : FuncData} {tb : List Addr} {k : Nat}
structure MtR2 (P : Program) (w : World) (K : PySem.W.Frag) (mg : Str → Option Value) (base : Heap) (C : Addr) (m : Str) (ps : List Str) (k : Nat) (sp : Sp) : Prop where
  ex : ∃ (f : Addr) (fd : FuncData), FnOk P w K mg base CX0 k f fd ps sp ∧ Meth K C m f ∧ Binds K fd ps []
def spInit (C : Addr) : Sp := fun vs H Q _ => ∃ (p dx : Addr), vs = [.ref p] ∧ H p = some (.ins C dx []) ∧ ∀ t r : Addr, H t = none → upd (upd H t (.lst [])) p (.ins C dx [("things", .ref t)]) r = none →
  Q .non (upd (upd (upd (upd H t (.lst [])) p (.ins C dx [("things", .ref t)])) r (.dK [])) p (.ins C dx [("things", .ref t), ("rows", .ref r)]))
theorem ok_init (F : FnM K "__init__" "Shelf.__init__" s_Shelf___init__ f fd) (T : ShC K mg C) : FnOk P w K mg base CX0 (k + 1) f fd ["self"] (spInit C) := by
  refine F.ok sc_Shelf___init__ (fun vs H Q E h => ?_) (fun cdv A outer s H vs Q E hr h => ?_)
  · obtain ⟨p, dx, rfl, _⟩ := h
    rfl
  · obtain ⟨p, dx, rfl, hp, q⟩ := h
    refine ⟨_, pss_cons (ps_fld (pv 0) (pe_lst pa_nil) rfl) (pss_one (ps_fld (pv 0) pe_dnewK rfl)), ?_⟩
    refine ⟨Nat.zero_le _, fun t ht => ?_⟩
    have npt : p ≠ t := ne_of_none hp ht
    refine ⟨_, rfl, p, C, dx, [], rfl, (by rw [upd_ne npt]; exact hp), T.cl, T.nT, (by show 0 < 1000; decide), ?_⟩
    intro r hr0
    have npr : p ≠ r := fun z => by
      rw [← z, upd_same] at hr0
      cases hr0
    exact ⟨_, rfl, p, C, dx, [("things", .ref t)], rfl, (by rw [upd_ne npr, upd_same]; rfl), T.cl, T.nR, (by show 1 < 1000; decide), q t r ht hr0⟩
def numD (xs : List S) (s : S) : PyData := match numS xs s with
  | some i => .int (i : Int)
  | none => .none
structure NumP (xs : List S) (s : S) : Prop where
  o : Ok s
  d : dep s ≤ 60
  g : Good 60 xs
  l : xs.length < 9000000
def spNum (K : PySem.W.Frag) (tb : List Addr) (C : Addr) : Sp := fun vs H Q _ => ∃ (sh : Addr) (Hd : Hp) (xs : List S) (s : S) (v : V), vs = [.ref sh, v] ∧ DH Hd H ∧ (∀ P ∈ tb, GxR.TabG H P) ∧ ShF K C sh Hd H xs ∧ Dp K Hd v (enc s) ∧ NumP xs s ∧
  ∀ u Hd' H', Gr Hd H Hd' H' → (∀ P ∈ tb, GxR.TabG H' P) → Dp K Hd' u (numD xs s) → Q u H'
theorem num_plain {K : PySem.W.Frag} {A B : Hp} {u : V} {xs : List S} {s : S} (h : Dp K A u (numD xs s)) : Dp K B u (numD xs s) := by
  unfold numD at *
  split at h
  · cases h
    exact .int _
  · cases h
    exact .non
theorem ok_number {kb : Nat} (F : FnM K "number" "Shelf.number" s_Shelf_number f fd) (T : ShC K mg C) (G : FnG P w K mg base tb "beginning" ["thing"] kb rBeg) (h1 : kb ≤ k) : FnOk P w K mg base CX0 (k + 1) f fd ["self", "thing"] (spNum K tb C) := by
  refine fok F sc_Shelf_number (fun vs H Q E h => ?_) fun A outer s' H vs Q E hr h => ?_
  · obtain ⟨_, _, _, _, _, rfl, _⟩ := h
    rfl
  · obtain ⟨sh, Hd, xs, s, v, rfl, D, ht, hF, dv, hN, q⟩ := h
    have nd := sc_Shelf_number.nd
    have body : PBd (cxOf CX0 P w K mg base n_Shelf_number "Shelf.number" (defScope s_Shelf_number) f fd.code A outer s' H E).nox tb W0 (defBody s_Shelf_number) [shelfS K C xs, .dat (enc s), .no] (.rt (numD xs s)) := by
      have it : ∀ (i : Nat) (d : PyData), (natsV (idxOf xs (begT s)))[i]? = some d → ∃ n : Nat, (idxOf xs (begT s))[i]? = some n ∧ d = .int (n : Int) ∧ n < xs.length := fun i d e => by
        unfold natsV at e
        rw [List.getElem?_map] at e
        cases hh : (idxOf xs (begT s))[i]? with
        | none => rw [hh] at e; cases e
        | some n =>
          rw [hh] at e
          exact ⟨n, rfl, (Option.some.inj e).symm, idx_lt (List.mem_of_getElem? hh)⟩
      have get : ∀ (i n : Nat), (idxOf xs (begT s))[i]? = some n → (idxOf xs (begT s)).getD i 0 = n := fun i n e => by rw [List.getD_eq_getElem?_getD, e] <;> rfl
      have lq : (natsV (idxOf xs (begT s))).length = (idxOf xs (begT s)).length := List.length_map _
      refine bd_forB (items := natsV (idxOf xs (begT s))) 2 (fun i => !decide (xs.getD ((idxOf xs (begT s)).getD i 0) .fls = s)) (numD xs s) PassesOwn.never rfl (id_list (ed_rowOf 0 hr T (ed_call G (hr.mono h1) (ad_cons (ed_var 1) ad_nil) ⟨s, rfl, hN.o, hN.d, rfl⟩))) nd (fun i d e pre => ?_) (fun h => ?_) (fun m _ _ => rfl)
      · obtain ⟨n, e1, rfl, hn⟩ := it i d e
        rw [get i n e1]
        have hg := hN.g _ (List.getElem_mem hn)
        have ex : xs.getD n .fls = xs[n] := by rw [List.getD_eq_getElem?_getD, List.getElem?_eq_getElem hn] <;> rfl
        have hx : atI (xs.map enc) (n : Int) = some (enc xs[n]) := atI_nat (by rw [List.getElem?_map, List.getElem?_eq_getElem hn] <;> rfl)
        rw [ex]
        by_cases q : xs[n] = s
        · rw [if_neg (by rw [decide_eq_true q]; exact Bool.false_ne_true)]
          refine bd_left (sd_if (k := true) ((td_cmpD (ed_item (f := enc xs[n]) (ed_things 0 T) (ed_var 2) (item_l hx)) (ed_var 1) (cmp_eqD hr (enc_shaped hg.1 (Nat.le_trans hg.2 (by decide))) (enc_shaped hN.o (Nat.le_trans hN.d (by decide))))).is (by rw [eqv_enc, decide_eq_true q])) (fun _ => bd_left ((sd_ret (ed_var 2)).is ?_)) (fun h => nomatch h))
          have hs : numS xs s = some n := by
            rw [← idx_find, List.find?_eq_some_iff_getElem]
            refine ⟨by rw [ex]; exact decide_eq_true q, i, (List.getElem?_eq_some_iff.mp e1).1, (List.getElem?_eq_some_iff.mp e1).2, fun m hm => ?_⟩
            have hm2 : m < (idxOf xs (begT s)).length := Nat.lt_trans hm (List.getElem?_eq_some_iff.mp e1).1
            have := pre m hm
            rw [get m _ (List.getElem?_eq_getElem hm2)] at this
            exact this
          unfold numD
          rw [hs]
        · rw [if_pos (by rw [decide_eq_false q]; rfl)]
          exact bd_wk (bd_cons (sd_if (o := .nx _) (k := false) ((td_cmpD (ed_item (f := enc xs[n]) (ed_things 0 T) (ed_var 2) (item_l hx)) (ed_var 1) (cmp_eqD hr (enc_shaped hg.1 (Nat.le_trans hg.2 (by decide))) (enc_shaped hN.o (Nat.le_trans hN.d (by decide))))).is (by rw [eqv_enc, decide_eq_false q])) (fun h => nomatch h) fun _ => bd_nil) bd_nil) (.same _ (.same _ (.no _ .nil)))
      · have hn : numS xs s = none := by
          rw [← idx_find, List.find?_eq_none]
          intro n hm q
          obtain ⟨i, hi, e⟩ := List.getElem_of_mem hm
          have := h i (by rw [lq]; exact hi)
          rw [get i n (by rw [List.getElem?_eq_getElem hi, e]), q] at this
          cases this
        refine bd_left ((sd_ret ed_non).is ?_)
        unfold numD
        rw [hn]
    obtain ⟨tt, p1, r1⟩ := body
    have gl : ∀ P ∈ tb, GxR.TabG H P := ht
    refine ⟨tt, p1.nox, r1 (noTab H) H (noTab H) H _ _ ⟨⟨rfl, noTab_dh H, ht, fun i sl e => ?_, fun i j us ys a n e1 e2 _ _ => ?_⟩, Gr.refl (noTab_dh H), fun i us a e1 _ => ?_⟩ fun u Hd' H' g ht' du => q u Hd H' (gr_back D g) ht' (num_plain du)⟩
    · match i, e with
      | 0, e =>
        cases e
        exact ⟨_, rfl, sh, rfl, shf_noTab D hF⟩
      | 1, e =>
        cases e
        exact ⟨_, rfl, Dp.up dv fun a o z => noTab_at (D.s a o z) fun ps y => D.nt a ps (by rw [z, y])⟩
      | 2, e =>
        cases e
        exact ⟨_, rfl, trivial⟩
    · match i, e1 with
      | 0, e1 => cases e1
      | 1, e1 => cases e1
      | 2, e1 => cases e1
    · match i, e1 with
      | 0, e1 => cases e1
      | 1, e1 => cases e1
      | 2, e1 => cases e1
end
end K7
namespace K7
open PySem PySem.Spec PyProof.Rows L2 DL LM RM PT SHLF
local macro_rules | `(tactic| walk_at "side") => `(tactic| first | assumption | decide | omega | (simp; done) | (simp; omega))
local macro_rules | `(tactic| walk_at "bin") => `(tactic| first | exact bin_add | exact bin_sub | exact bin_mul (by walk_at "side") | exact bin_fdiv (by walk_at "side") | exact bin_mod (by walk_at "side") | exact bin_catm (by walk_at "side") | exact bin_cat (by walk_at "side") | exact bin_addS (by walk_at "side"))
local macro_rules | `(tactic| walk_at "cmp") => `(tactic| first | exact cmp_lt | exact cmp_le | exact cmp_gt | exact cmp_ge | exact cmp_eqI | exact cmp_neI | exact cmp_eqS | exact cmp_neS | exact cmp_eqB | exact cmp_neB | exact cmp_isN | exact cmp_notN)
local macro_rules | `(tactic| walk_at "slc") => `(tactic| first | exact slc_lm | exact slc_l | exact slc_s (by walk_at "side"))
local macro_rules | `(tactic| walk_at "len") => `(tactic| first | exact len_lm | exact len_l rfl | exact len_t rfl | exact len_s (by walk_at "side"))
local macro_rules | `(tactic| walk_at "room") => `(tactic| exact Room.mono (by assumption) (by decide))
section
variable {P : Program} {w : World} {K : PySem.W.Frag} {mg : Str → Option Value} {base : Heap} {f C : Addr} {fd : FuncData} {tb : List Addr} {k : Nat}
def spTakes (K : PySem.W.Frag) (tb : List Addr) (C : Addr) : Sp := fun vs H Q _ => ∃ (sh t r : Addr) (Hd0 H0 : Hp) (m : Nat) (Hd : Hp) (xs : List S) (s : S) (v : V), vs = [.ref sh, v] ∧ Shx K tb C sh t r Hd0 H0 m Hd H xs ∧ Dp K Hd v (enc s) ∧ NumP xs s ∧ m < 9000000 ∧
  ∀ Hd' H', Ste Hd H Hd' H' → Shx K tb C sh t r Hd0 H0 (m + 1) Hd' H' (if s ∈ xs then xs else xs ++ [s]) → Q (.bl (decide (s ∉ xs))) H'
theorem ok_takes {kb kn : Nat} (F : FnM K "takes" "Shelf.takes" s_Shelf_takes f fd) (T : ShC K mg C) (G : FnG P w K mg base tb "beginning" ["thing"] kb rBeg) (GN : MtR2 P w K mg base C "number" ["self", "thing"] kn (spNum K tb C)) (ml : mg "len" = none) (h1 : kb ≤ k) (h2 : kn ≤ k) : FnOk P w K mg base CX0 (k + 1) f fd ["self", "thing"] (spTakes K tb C) := by
  obtain ⟨fB, fdB, FB, mB, kB, bB⟩ := G.ex
  obtain ⟨fN, fdN, FN, mN, bN⟩ := GN.ex
  refine F.ok sc_Shelf_takes (fun vs H Q E h => ?_) (fun cdv A outer s' H vs Q E hr h => ?_)
  · obtain ⟨_, _, _, _, _, _, _, _, _, _, rfl, _⟩ := h
    rfl
  · obtain ⟨sh, t, r, Hd0, H0, m, Hd, xs, s, v, rfl, W, dv, hN, hm, q⟩ := h
    have nd := sc_Shelf_takes.nd
    refine ⟨_, pss_cons (ps_if (pt_cmpR op_notN (pe_meth (pv 0) T.cl mN FN (hr.mono h2) bN .nil pass0 (pa_cons (pv 1) pa_nil)) pe_non (by first | exact nomark _ | rfl)) (pss_one (ps_ret pe_bl)) pss_nil)
      (pss_cons (ps_expr (pe_bm PySem.F.plainAttrs_list PySem.F.slot_list_append PySem.F.type_list_append mt_append (pe_dsetd (pe_fld (pv 0) rfl) (pe_call FB (hr.mono h1) rfl mB kB bB .nil pass0 (pa_cons (pv 1) pa_nil)) (pe_lst pa_nil) ⟨rfl, rfl, rfl, rfl⟩) (pa_cons (pe_callB call_len_seq rfl ml PySem.boot_len (pa_cons (pe_fld (pv 0) rfl) pa_nil) (by decide) (by decide)) pa_nil)))
      (pss_cons (ps_expr (pe_bm PySem.F.plainAttrs_list PySem.F.slot_list_append PySem.F.type_list_append mt_append (pe_fld (pv 0) rfl) (pa_cons (pv 1) pa_nil)))
      (pss_one (ps_ret pe_bl)))), ?_⟩
    obtain ⟨dx, w1⟩ := W.ob
    refine ⟨_, rfl, sh, dx, _, rfl, w1, rfl, _, rfl, sh, Hd, xs, s, v, rfl, W.dh, W.tb, W.f, dv, hN, fun u Hd1 H1 g1 t1 du => ?_⟩
    have W1 := W.up g1
    have dv1 : Dp K Hd1 v (enc s) := Dp.up dv g1.d
    by_cases hs : s ∈ xs
    · have hu : u ≠ .non := by
        unfold numD at du
        split at du
        · cases du
          exact fun z => nomatch z
        · rename_i hnn
          exact absurd hs (num_none.mp hnn)
      refine ⟨rfl, true, by rw [decide_eq_false hu] <;> rfl, iteT ?_⟩
      have z := q Hd1 H1 (Ste.of g1) (by rw [if_pos hs]; exact W1.more (Nat.le_succ _))
      rw [decide_eq_false (not_not_intro hs)] at z
      exact z
    · have hn := num_none.mpr hs
      have hu : u = .non := by
        unfold numD at du
        rw [hn] at du
        cases du
        rfl
      refine ⟨rfl, false, by rw [decide_eq_true hu] <;> rfl, iteF ?_⟩
      obtain ⟨dx1, v1⟩ := W1.ob
      obtain ⟨kvs0, v2, _, _, _, _⟩ := W1.rows
      refine ⟨_, rfl, sh, C, dx1, _, _, rfl, v1, T.cl, T.nR, rfl, r, rfl, .inl ⟨kvs0, .inl v2⟩, ?_⟩
      refine ⟨_, rfl, Hd1, [enc s], .str (begT s), rfl, W1.dh, W1.tb, .cons dv1 .nil, ⟨s, rfl, hN.o, hN.d, rfl⟩, fun u2 Hd2 H2 g2 t2 du2 => ?_⟩
      cases du2
      refine ⟨Nat.zero_le _, fun p hp => ?_⟩
      have g3 : Gr Hd2 H2 Hd2 (upd H2 p (.lst [])) := Gr.newOut g2.h hp
      have W2 := W1.up g2
      have W3 := W2.up g3
      have st3 : Ste Hd H Hd2 (upd H2 p (.lst [])) := ((Ste.of g1).trans (Ste.of g2)).trans (Ste.of g3)
      have dv3 : Dp K Hd2 v (enc s) := Dp.up dv1 g2.d
      have pd : Hd2 p = none := none_of_dh g2.h hp
      have p0 : H0 p = none := W2.gr.e.n _ hp
      obtain ⟨kvs, y2, y3, R, y4, y5⟩ := W3.rows
      have pt : p ≠ t := fun z => by
        obtain ⟨ws, e1, _⟩ := W2.th
        rw [← z, hp] at e1
        cases e1
      have pnew : ∀ j, valV kvs (Sum.inr j : Key) ≠ some (.ref p) := fun j z => by
        obtain ⟨kvs2, e1, _, R2, _, _⟩ := W2.rows
        have e2 : upd H2 p (.lst []) r = some (.dK kvs2) := by rw [upd_ne (ne_of_none e1 hp)]; exact e1
        rw [y2] at e2
        cases e2
        obtain ⟨l, e3, e4⟩ := R2.there j _ z
        cases e3
        rw [hp] at e4
        cases e4
      generalize hH3 : upd H2 p (.lst []) = H3 at *
      have hp3 : H3 p = some (.lst []) := by rw [← hH3, upd_same]
      refine ⟨kvs, Sum.inr (begT s), y2, rfl, Nat.lt_of_le_of_lt y3 (Nat.lt_of_lt_of_le hm (by decide)), fun v0 hv => ?_, fun hn2 => ?_⟩
      · obtain ⟨l, rfl, hl4⟩ := R.there _ _ hv
        have W4 := W3
        have hr4 := y2
        have hk4 := hv
        have dv4 := dv3
        have st4 := st3
        have ob4 := W4.ob
        obtain ⟨dx4, ob4⟩ := ob4
        obtain ⟨ws, ht4, hw4⟩ := W4.th
        have lw := dpa_len hw4
        rw [List.length_map] at lw
        have nlt : t ≠ l := fun z => by
          obtain ⟨kvs', q1, _, _, q2, _⟩ := W4.rows
          rw [hr4] at q1
          cases q1
          exact (q2 _ _ hk4).2.1 z.symm
        have nsl : sh ≠ l := fun z => by rw [z, hl4] at ob4; cases ob4
        have li := idx_len xs (begT s)
        refine ⟨.inl ⟨rfl, _, .inl (.inl hl4)⟩, _, rfl, sh, C, dx4, _, _, rfl, ob4, T.cl, T.nT, rfl, t, ws, rfl, .inl (.of ht4), l, _, .int (ws.length : Nat), rfl, rfl, hl4, ?_, ?_⟩
        · rw [List.length_map]
          exact Nat.lt_of_le_of_lt (show (idxOf xs (begT s)).length ≤ 9000000 by have := hN.l; omega) (by decide)
        refine ⟨_, rfl, sh, C, dx4, _, .ref t, rfl, by rw [upd_ne nsl]; exact ob4, T.cl, T.nT, rfl, .inl ⟨rfl, ws, .inl (.inl (by rw [upd_ne nlt]; exact ht4))⟩, v, rfl, t, ws, v, rfl, rfl, by rw [upd_ne nlt]; exact ht4, Nat.lt_of_le_of_lt (show ws.length ≤ 9000000 by have := hN.l; omega) (by decide), ?_⟩
        have W5 := W4.put hr4 hk4 ht4 dv4
        rw [← lw] at W5
        have z := q _ _ ((st4.trans ⟨Sub.refl _, fun a e => n_upd e⟩).trans ⟨Sub.refl _, fun a e => n_upd e⟩) (by rw [if_neg hs]; exact W5.more (by omega))
        rw [decide_eq_true hs] at z
        exact z
      · have W4 := W3.addRow hp3 pd p0 pt pnew y2 hn2
        have pr : p ≠ r := fun z => by
          rw [z, y2] at hp3
          cases hp3
        have hl4 : (upd H3 r (.dK (putK kvs (Sum.inr (begT s) : Key) (.ref p)))) p = some (.lst ((idxOf xs (begT s)).map fun (i : Nat) => V.int (i : Int))) := by
          rw [upd_ne pr, R.no _ hn2]
          exact hp3
        have hr4 : (upd H3 r (.dK (putK kvs (Sum.inr (begT s) : Key) (.ref p)))) r = some (.dK (putK kvs (Sum.inr (begT s) : Key) (.ref p))) := upd_same
        have hk4 : valV (putK kvs (Sum.inr (begT s) : Key) (.ref p)) (Sum.inr (begT s) : Key) = some (.ref p) := by rw [valV_put, if_pos rfl]
        have hl4' := hl4
        have dv4 := dv3
        have st4 : Ste Hd H Hd2 (upd H3 r (.dK (putK kvs (Sum.inr (begT s) : Key) (.ref p)))) := st3.trans ⟨Sub.refl _, fun a e => n_upd e⟩
        have ob4 := W4.ob
        obtain ⟨dx4, ob4⟩ := ob4
        obtain ⟨ws, ht4, hw4⟩ := W4.th
        have lw := dpa_len hw4
        rw [List.length_map] at lw
        have nlt : t ≠ p := fun z => by
          obtain ⟨kvs', q1, _, _, q2, _⟩ := W4.rows
          rw [hr4] at q1
          cases q1
          exact (q2 _ _ hk4).2.1 z.symm
        have nsl : sh ≠ p := fun z => by rw [z, hl4] at ob4; cases ob4
        have li := idx_len xs (begT s)
        refine ⟨.inl ⟨rfl, _, .inl (.inl hl4)⟩, _, rfl, sh, C, dx4, _, _, rfl, ob4, T.cl, T.nT, rfl, t, ws, rfl, .inl (.of ht4), p, _, .int (ws.length : Nat), rfl, rfl, hl4, ?_, ?_⟩
        · rw [List.length_map]
          exact Nat.lt_of_le_of_lt (show (idxOf xs (begT s)).length ≤ 9000000 by have := hN.l; omega) (by decide)
        refine ⟨_, rfl, sh, C, dx4, _, .ref t, rfl, by rw [upd_ne nsl]; exact ob4, T.cl, T.nT, rfl, .inl ⟨rfl, ws, .inl (.inl (by rw [upd_ne nlt]; exact ht4))⟩, v, rfl, t, ws, v, rfl, rfl, by rw [upd_ne nlt]; exact ht4, Nat.lt_of_le_of_lt (show ws.length ≤ 9000000 by have := hN.l; omega) (by decide), ?_⟩
        have W5 := W4.put hr4 hk4 ht4 dv4
        rw [← lw] at W5
        have z := q _ _ ((st4.trans ⟨Sub.refl _, fun a e => n_upd e⟩).trans ⟨Sub.refl _, fun a e => n_upd e⟩) (by rw [if_neg hs]; exact W5.more (by omega))
        rw [decide_eq_true hs] at z
        exact z
end
end K7
namespace K7
open PySem PySem.Spec PyProof.Rows L2 DL LM RM PT SHLF
local macro_rules | `(tactic| walk_at "side") => `(tactic| first | assumption | decide | omega | (simp; done) | (simp; omega))
local macro_rules | `(tactic| walk_at "bin") => `(tactic| first | exact bin_add | exact bin_sub | exact bin_mul (by walk_at "side") | exact bin_fdiv (by walk_at "side") | exact bin_mod (by walk_at "side") | exact bin_catm (by walk_at "side") | exact bin_cat (by walk_at "side") | exact bin_addS (by walk_at "side"))
local macro_rules | `(tactic| walk_at "cmp") => `(tactic| first | exact cmp_lt | exact cmp_le | exact cmp_gt | exact cmp_ge | exact cmp_eqI | exact cmp_neI | exact cmp_eqS | exact cmp_neS | exact cmp_eqB | exact cmp_neB | exact cmp_isN | exact cmp_notN)
local macro_rules | `(tactic| walk_at "slc") => `(tactic| first | exact slc_lm | exact slc_l | exact slc_s (by walk_at "side"))
local macro_rules | `(tactic| walk_at "len") => `(tactic| first | exact len_lm | exact len_l rfl | exact len_t rfl | exact len_s (by walk_at "side"))
local macro_rules | `(tactic| walk_at "room") => `(tactic| exact Room.mono (by assumption) (by decide))
abbrev s_shelve : Stmt := topS 13
abbrev n_shelve : List Str := ["statement", "shelf", "half"]
abbrev p_shelve : List Str := ["statement", "shelf"]
theorem sc_shelve : FnScope n_shelve p_shelve (defScope s_shelve) := ⟨rfl, rfl, rfl, by decide +kernel, rfl, by decide +kernel, by decide +kernel⟩
abbrev s_shelved : Stmt := topS 12
abbrev n_shelved : List Str := ["statement", "shelf"]
abbrev p_shelved : List Str := ["statement"]
theorem sc_shelved : FnScope n_shelved p_shelved (defScope s_shelved) := ⟨rfl, rfl, rfl, by decide +kernel, rfl, by decide +kernel, by decide +kernel⟩
section
variable {P : Program} {w : World} {K : PySem.W.Frag} {mg : Str → Option Value} {base : Heap} {f C : Addr} {fd : FuncData} {tb : List Addr} {k : Nat}
structure FnR (P : Program) (w : World) (K : PySem.W.Frag) (mg : Str → Option Value) (base : Heap) (x : Str) (ps : List Str) (k : Nat) (sp : Sp) : Prop where
  ex : ∃ (f : Addr) (fd : FuncData), FnOk P w K mg base CX0 k f fd ps sp ∧ mg x = some (.ref f) ∧ PySem.W.keepIn K (.ref f) = true ∧ Binds K fd ps []
def spShelve (K : PySem.W.Frag) (tb : List Addr) (C : Addr) (n : Nat) : Sp := fun vs H Q _ => ∃ (sh t r : Addr) (Hd0 H0 : Hp) (m : Nat) (Hd : Hp) (xs : List S) (s : S) (v : V), vs = [v, .ref sh] ∧ Shx K tb C sh t r Hd0 H0 m Hd H xs ∧ Dp K Hd v (enc s) ∧ Ok s ∧ dep s ≤ n ∧ n ≤ 60 ∧ Good 60 xs ∧ xs.length + sz s < 8900000 ∧ m + sz s < 8900000 ∧
  ∀ Hd' H', Ste Hd H Hd' H' → Shx K tb C sh t r Hd0 H0 (m + sz s) Hd' H' (lp s xs) → Q .non H'
theorem ok_shelve0 (F : FnP K "shelve" s_shelve f fd) : FnOk P w K mg base CX0 (k + 1) f fd ["statement", "shelf"] (spShelve K tb C 0) := by
  refine F.ok sc_shelve (fun vs H Q E h => ?_) (fun cdv A outer s' H vs Q E hr h => ?_)
  · obtain ⟨_, _, _, _, _, _, _, _, _, _, rfl, _⟩ := h
    rfl
  · obtain ⟨_, _, _, _, _, _, _, _, s, _, _, _, _, _, hd, _⟩ := h
    have := dep_pos s
    omega
theorem ok_shelve {n kt kn kh : Nat} (F : FnP K "shelve" s_shelve f fd) (T : ShC K mg C) (GN : MtR2 P w K mg base C "number" ["self", "thing"] kn (spNum K tb C)) (GT : MtR2 P w K mg base C "takes" ["self", "thing"] kt (spTakes K tb C)) (GH : FnG P w K mg base tb "halves" ["formed"] kh rHalves) (GC : FnR P w K mg base "shelve" ["statement", "shelf"] k (spShelve K tb C n)) (h1 : kt ≤ k) (h2 : kh ≤ k) (h3 : kn ≤ k) :
    FnOk P w K mg base CX0 (k + 1) f fd ["statement", "shelf"] (spShelve K tb C (n + 1)) := by
  obtain ⟨fN, fdN, FN, mN, bN⟩ := GN.ex
  obtain ⟨fT, fdT, FT, mT, bT⟩ := GT.ex
  obtain ⟨fH, fdH, FH, mH, kH, bH⟩ := GH.ex
  obtain ⟨fC, fdC, FC, mC, kC, bC⟩ := GC.ex
  refine F.ok sc_shelve (fun vs H Q E h => ?_) (fun cdv A outer s' H vs Q E hr h => ?_)
  · obtain ⟨_, _, _, _, _, _, _, _, _, _, rfl, _⟩ := h
    rfl
  · obtain ⟨sh, t, r, Hd0, H0, m, Hd, xs, s, v, rfl, W, dv, hok, hd, hn, good, hl, hm, q⟩ := h
    have nd := sc_shelve.nd
    refine ⟨_, PSs.nox (pss_one (ps_if (pt_cmpR op_isN (pe_meth (pv 1) T.cl mN FN (hr.mono h3) bN .nil pass0 (pa_cons (pv 0) pa_nil)) pe_non (by first | exact nomark _ | rfl))
      (pss_cons (ps_for PassesOwn.never rfl (pi_list (pe_call FH (hr.mono h2) rfl mH kH bH .nil pass0 (pa_cons (pv 0) pa_nil))) (pg_name (i := 2) nd rfl (Or.inl rfl))
        (pss_one (ps_expr (pe_call FC hr rfl mC kC bC .nil pass0 (pa_cons (pv 2) (pa_cons (pv 1) pa_nil))))))
      (pss_one (ps_expr (pe_meth (pv 1) T.cl mT FT (hr.mono h1) bT .nil pass0 (pa_cons (pv 0) pa_nil))))) pss_nil)), ?_⟩
    obtain ⟨dx, w1⟩ := W.ob
    have p0 : 0 < sz s := by cases s <;> exact Nat.succ_pos _
    refine ⟨_, rfl, sh, dx, _, rfl, w1, rfl, _, rfl, sh, Hd, xs, s, v, rfl, W.dh, W.tb, W.f, dv, ⟨hok, by omega, good, by omega⟩, fun u Hd1 H1 g1 t1 du => ?_⟩
    have W1 := W.up g1
    have dv1 : Dp K Hd1 v (enc s) := Dp.up dv g1.d
    by_cases hs : s ∈ xs
    · have hu : u ≠ .non := by
        unfold numD at du
        split at du
        · cases du
          exact fun z => nomatch z
        · rename_i hnn
          exact absurd hs (num_none.mp hnn)
      refine ⟨rfl, false, by rw [decide_eq_false hu] <;> rfl, iteF ?_⟩
      refine q Hd1 H1 (Ste.of g1) ?_
      rw [lp_in hs]
      exact W1.more (by omega)
    · have hnn := num_none.mpr hs
      have hu : u = .non := by
        unfold numD at du
        rw [hnn] at du
        cases du
        rfl
      refine ⟨rfl, true, by rw [decide_eq_true hu] <;> rfl, iteT ?_⟩
      refine ⟨_, rfl, Hd1, [enc s], .list ((halvesS s).map enc), rfl, W1.dh, W1.tb, .cons dv1 .nil, ⟨s, rfl, rfl⟩, fun u Hd2 H2 g2 t2 du => ?_⟩
      cases du with
      | @lst a us _ k1 k2 =>
        have lu := dpa_len k2
        rw [List.length_map] at lu
        have W2 := W1.up g2
        refine ⟨a, rfl, ⟨us, sl_sub g2.h.s k1⟩, for_list (K := K) (a := a) (xs := us) (fun i σ H3 => ∃ (Hd3 : Hp) (v3 : Option V), σ = [some v, some (.ref sh), v3] ∧ Sub Hd2 Hd3 ∧ Ste Hd H Hd3 H3 ∧ Shx K tb C sh t r Hd0 H0 (m + szs ((halvesS s).take i)) Hd3 H3 (foldP ((halvesS s).take i) xs))
          ⟨Hd2, none, rfl, Sub.refl _, (Ste.of g1).trans (Ste.of g2), W2⟩ (fun i σ H3 _ ⟨Hd3, _, _, s3, _, W3⟩ => sl_sub W3.dh.s (sl_sub s3 k1)) ?_ ?_⟩
        · rintro i x σ H3 hx ⟨Hd3, v3, rfl, s3, st3, W3⟩
          have hi : i < us.length := (List.getElem?_eq_some_iff.mp hx).1
          have hi2 : i < (halvesS s).length := by omega
          have eh := List.getElem?_eq_getElem hi2
          generalize (halvesS s)[i] = h at eh
          have hmem := List.mem_of_getElem? eh
          obtain ⟨o1, o2⟩ := halves_ok hmem hok hd
          have dx : Dp K Hd2 x (enc h) := by
            obtain ⟨y, e1, e2⟩ := dpa_get k2 (i := i) (d := enc h) (by rw [List.getElem?_map, eh] <;> rfl)
            rw [hx] at e1
            cases e1
            exact e2
          have tk := take_snoc eh
          have z1 := szs_snoc ((halvesS s).take i) h
          rw [← tk] at z1
          have z2 := szs_take (halvesS s) (i + 1)
          have z3 := szs_halves s
          have l1 := foldP_len ((halvesS s).take i) xs
          have g3 := foldP_good (n := 60) ((halvesS s).take i) xs (fun y hy => by
            obtain ⟨a1, a2⟩ := halves_ok (List.mem_of_mem_take hy) hok hd
            exact ⟨a1, by omega⟩) good
          have fs := foldP_snoc ((halvesS s).take i) h xs
          rw [← tk] at fs
          refine ⟨x, rfl, .ref sh, rfl, sh, t, r, Hd0, H0, _, Hd3, _, h, x, rfl, W3, Dp.up dx s3, o1, o2, by omega, g3, by omega, by omega, fun Hd4 H4 s4 W4 => ?_⟩
          refine ⟨Hd4, some x, rfl, s3.trans s4.d, st3.trans s4, ?_⟩
          rw [fs]
          exact W4.more (by omega)
        · rintro σ H3 ⟨Hd3, v3, rfl, s3, st3, W3⟩
          rw [lu, List.take_length] at W3
          obtain ⟨dx3, w3⟩ := W3.ob
          have l1 := foldP_len (halvesS s) xs
          have z3 := szs_halves s
          have hnot := foldP_low hs
          have g3 := foldP_good (n := 60) (halvesS s) xs (fun y hy => by
            obtain ⟨a1, a2⟩ := halves_ok hy hok hd
            exact ⟨a1, by omega⟩) good
          refine ⟨_, rfl, sh, dx3, _, rfl, w3, rfl, _, rfl, sh, t, r, Hd0, H0, _, Hd3, _, s, v, rfl, W3, Dp.up (Dp.up dv1 g2.d) s3, ⟨hok, by omega, g3, by omega⟩, by omega, fun Hd4 H4 s4 W4 => ?_⟩
          rw [if_neg hnot, ← lp_out hs] at W4
          exact q Hd4 H4 (st3.trans s4) (W4.more (by omega))
theorem shelve_all {k0 : Nat} (F : FnP K "shelve" s_shelve f fd) (hg : mg "shelve" = some (.ref f)) (hb : Binds K fd ["statement", "shelf"] []) (T : ShC K mg C) {kn kt kh : Nat} (GN : MtR2 P w K mg base C "number" ["self", "thing"] kn (spNum K tb C)) (GT : MtR2 P w K mg base C "takes" ["self", "thing"] kt (spTakes K tb C)) (GH : FnG P w K mg base tb "halves" ["formed"] kh rHalves) (h1 : kt ≤ k0) (h2 : kh ≤ k0) (h3 : kn ≤ k0) :
    ∀ n : Nat, FnR P w K mg base "shelve" ["statement", "shelf"] (k0 + n + 1) (spShelve K tb C n)
  | 0 => ⟨_, _, ok_shelve0 F, hg, F.kp, hb⟩
  | n + 1 => ⟨_, _, ok_shelve F T GN GT GH (shelve_all F hg hb T GN GT GH h1 h2 h3 n) (by omega) (by omega) (by omega), hg, F.kp, hb⟩
/-- a shelf with the parts of a statement, all of it new -/
def spShelved (K : PySem.W.Frag) (tb : List Addr) (C : Addr) : Sp := fun vs H Q _ => ∃ (Hd : Hp) (s : S) (v : V), vs = [v] ∧ DH Hd H ∧ (∀ P ∈ tb, GxR.TabG H P) ∧ Dp K Hd v (enc s) ∧ Ok s ∧ dep s ≤ 30 ∧ sz s < 8000000 ∧
  ∀ (sh t r : Addr) (Hd' H' : Hp), Shx K tb C sh t r Hd H (sz s) Hd' H' (lp s []) → Q (.ref sh) H'
theorem ok_shelved {kc ki : Nat} (F : FnP K "shelved" s_shelved f fd) (T : ShC K mg C) (GI : ∃ fI fdI, Mk K C fI ∧ FnOk P w K mg base CX0 ki fI fdI ["self"] (spInit C) ∧ Binds K fdI ["self"] []) (GC : FnR P w K mg base "shelve" ["statement", "shelf"] kc (spShelve K tb C 30)) (h1 : kc ≤ k) (h2 : ki + 1 ≤ k) :
    FnOk P w K mg base CX0 (k + 1) f fd ["statement"] (spShelved K tb C) := by
  obtain ⟨fI, fdI, M, FI, bI⟩ := GI
  obtain ⟨fC, fdC, FC, mC, kC, bC⟩ := GC.ex
  refine F.ok sc_shelved (fun vs H Q E h => ?_) (fun cdv A outer s' H vs Q E hr h => ?_)
  · obtain ⟨_, _, _, rfl, _⟩ := h
    rfl
  · obtain ⟨Hd, s, v, rfl, D, ht, dv, hok, hd, hz, q⟩ := h
    have nd := sc_shelved.nd
    refine ⟨_, PSs.nox (pss_cons (ps_set (i := 1) nd rfl (Or.inl rfl) (pe_make0 M FI (hr.mono h2) rfl T.g bI .nil pass0)) (pss_cons (ps_expr (pe_call FC (hr.mono h1) rfl mC kC bC .nil pass0 (pa_cons (pv 0) (pa_cons (pv 1) pa_nil)))) (pss_one (ps_ret (pv 1))))), ?_⟩
    intro x dx nx ndx nex
    refine ⟨x, dx, rfl, upd_same, fun t r ht0 hr0 => ⟨rfl, ?_⟩⟩
    have x0 : H x = none := nx
    have d0 : H dx = none := ndx
    have t1 := n_upd ht0
    have t0 : H t = none := n_upd t1
    have ntx : t ≠ x := fun z => by rw [z, upd_same] at ht0; cases ht0
    have nrx : r ≠ x := fun z => by rw [z, upd_same] at hr0; cases hr0
    have r1 := n_upd hr0
    have nrt : r ≠ t := fun z => by rw [z, upd_same] at r1; cases r1
    have r2 := n_upd r1
    have r0 : H r = none := n_upd (n_upd r2)
    have G0 := Gr.refl D
    have G2 := gr_upd (o := .own x) G0 d0 (none_of_dh D d0)
    have G3 := gr_upd (o := .ins C dx []) G2 x0 (none_of_dh D x0)
    have G4 := gr_upd (o := .lst []) G3 t0 (none_of_dh D t0)
    have G5 := gr_upd (o := .ins C dx [("things", .ref t)]) G4 x0 (none_of_dh D x0)
    have G6 := gr_upd (o := .dK []) G5 r0 (none_of_dh D r0)
    have G7 := gr_upd (o := .ins C dx [("things", .ref t), ("rows", .ref r)]) G6 x0 (none_of_dh D x0)
    have W : Shx K tb C x t r Hd H 0 Hd _ [] := ⟨G7, fun P hP => G7.e.t P (ht P hP), ⟨dx, upd_same⟩, ⟨[], by rw [upd_ne ntx, upd_ne nrt.symm, upd_ne ntx, upd_same], .nil⟩, none_of_dh D t0, none_of_dh D r0, none_of_dh D x0, t0, r0, x0, [], by rw [upd_ne nrx, upd_same], Nat.le_refl _, ⟨(fun j u e => by cases e), (fun j e => rfl)⟩, (fun j l e => by cases e), (fun j1 j2 l e => by cases e)⟩
    refine ⟨_, rfl, _, rfl, x, t, r, Hd, H, 0, Hd, [], s, v, rfl, W, dv, hok, hd, by decide, (fun y hy => by cases hy), (show 0 + sz s < 8900000 by omega), (show 0 + sz s < 8900000 by omega), fun Hd' H' st W' => ?_⟩
    exact ⟨_, rfl, q x t r Hd' H' (by rw [Nat.zero_add] at W'; exact W')⟩
end
end K7
namespace K7
open PySem PySem.Spec PyProof.Rows L2 DL LM RM PT SHLF
local macro_rules | `(tactic| walk_at "side") => `(tactic| first | assumption | decide | omega | (simp; done) | (simp; omega))
local macro_rules | `(tactic| walk_at "bin") => `(tactic| first | exact bin_add | exact bin_sub | exact bin_mul (by walk_at "side") | exact bin_fdiv (by walk_at "side") | exact bin_mod (by walk_at "side") | exact bin_catm (by walk_at "side") | exact bin_cat (by walk_at "side") | exact bin_addS (by walk_at "side"))
local macro_rules | `(tactic| walk_at "cmp") => `(tactic| first | exact cmp_lt | exact cmp_le | exact cmp_gt | exact cmp_ge | exact cmp_eqI | exact cmp_neI | exact cmp_eqS | exact cmp_neS | exact cmp_eqB | exact cmp_neB | exact cmp_isN | exact cmp_notN)
local macro_rules | `(tactic| walk_at "slc") => `(tactic| first | exact slc_lm | exact slc_l | exact slc_s (by walk_at "side"))
local macro_rules | `(tactic| walk_at "len") => `(tactic| first | exact len_lm | exact len_l rfl | exact len_t rfl | exact len_s (by walk_at "side"))
local macro_rules | `(tactic| walk_at "room") => `(tactic| exact Room.mono (by assumption) (by decide))
abbrev s_numbered : Stmt := topS 7
abbrev n_numbered : List Str := ["statement", "shelf", "part"]
abbrev p_numbered : List Str := ["statement"]
theorem sc_numbered : FnScope n_numbered p_numbered (defScope s_numbered) := ⟨rfl, rfl, rfl, by decide +kernel, rfl, by decide +kernel, by decide +kernel⟩
abbrev s_with_numbers : Stmt := topS 14
abbrev n_with_numbers : List Str := ["part", "shelf"]
abbrev p_with_numbers : List Str := ["part", "shelf"]
theorem sc_with_numbers : FnScope n_with_numbers p_with_numbers (defScope s_with_numbers) := ⟨rfl, rfl, rfl, by decide +kernel, rfl, by decide +kernel, by decide +kernel⟩
/-- a part, its halves by their numbers -/
def fmD (xs : List S) : S → PyData
  | .bin o a b => .tuple [.str o.word, numD xs a, numD xs b]
  | s => enc s
section
variable {X : Cx} {tb : List Addr} {ds : List Sl} {a : Expr} {pos p px apos : Pos} {x : Str} {xs : List S} {s : S} {C : Addr} {kn : Nat}
theorem ed_number (i : Nat) (T : ShC X.K X.mg C) (GN : MtR2 X.prog X.w X.K X.mg X.base C "number" ["self", "thing"] kn (spNum X.K tb C)) (hr : Room kn X.A) (ha : PEd X tb a ds (enc s)) (hn : NumP xs s) (hd : ds[i]? = some (shelfS X.K C xs) := by rfl) (hN : X.N[i]? = some x := by rfl) (hv : visB X.env.scope x = true := by rfl) (h1 : (x == ("__debug__" : Str)) = false := by decide) (h2 : (x == ("__classdict__" : Str)) = false := by decide)
    {pl : Sem Bool} (hst : starEach [a] X.env = (false, eval a X.env) :: starEach [] X.env := by rfl) (hpl : (backTo pos (starEach [] X.env)).any (·.1) = false := by rfl)
    (ht : eval (.Call (.Attribute (.Name x px) "number" apos) [a] [] pos) X.env = (do
      let ov ← eval (.Name x px) X.env
      standAt apos.atName
      let (f, first) ← holding [ov] (getMethod ov "number" pl)
      callWith pos f first (backTo pos (starEach [a] X.env)) (backToKw pos (keywordEach [] X.env))) := by rfl) :
    PEd X tb (.Call (.Attribute (.Name x px) "number" apos) [a] [] pos) ds (numD xs s) := by
  obtain ⟨fN, fdN, FN, mN, bN⟩ := GN.ex
  obtain ⟨t, p1, q1⟩ := ad_cons ha ad_nil hst
  refine ⟨_, pe_meth (pe_var hN (visB_ok hv) h1 h2) T.cl mN FN hr bN .nil pass0 p1 hst hpl ht, fun Hd H σ E Q q => ?_⟩
  obtain ⟨o, e1, e2⟩ := E.sl i _ hd
  cases o with
  | none => exact e2.elim
  | some w =>
    obtain ⟨sh, rfl, F⟩ : ∃ sh, w = .ref sh ∧ ShF X.K C sh Hd Hd xs := e2
    obtain ⟨dx, t, r, vs, kvs, k1, _⟩ := F.ex
    refine ⟨_, e1, sh, dx, _, rfl, E.dh.s _ _ k1, rfl, q1 Hd H σ E _ fun us Hd1 H1 g1 du => ?_⟩
    cases du with
    | cons d1 d2 =>
      cases d2
      have F1 := (F.sub g1.d).toH g1.h
      exact ⟨sh, Hd1, xs, s, _, rfl, g1.h, (E.up g1).tb, F1, d1, hn, fun u Hd2 H2 g2 t2 du => q u Hd2 H2 (g1.trans g2) du⟩
end
section
variable {P : Program} {w : World} {K : PySem.W.Frag} {mg : Str → Option Value} {base : Heap} {f C : Addr} {fd : FuncData} {tb : List Addr} {k : Nat}
def spWn (K : PySem.W.Frag) (tb : List Addr) (C : Addr) : Sp := fun vs H Q _ => ∃ (sh : Addr) (Hd : Hp) (xs : List S) (s : S) (v : V), vs = [v, .ref sh] ∧ DH Hd H ∧ (∀ P ∈ tb, GxR.TabG H P) ∧ ShF K C sh Hd Hd xs ∧ Dp K Hd v (enc s) ∧ NumP xs s ∧
  ∀ u Hd' H', Gr Hd H Hd' H' → (∀ P ∈ tb, GxR.TabG H' P) → Dp K Hd' u (fmD xs s) → Q u H'
theorem NumP.l' {xs : List S} {o : Op} {a b : S} (h : NumP xs (.bin o a b)) : NumP xs a := ⟨h.o.1, by have h : max (dep a) (dep b) + 1 ≤ 60 := h.d; omega, h.g, h.l⟩
theorem NumP.r' {xs : List S} {o : Op} {a b : S} (h : NumP xs (.bin o a b)) : NumP xs b := ⟨h.o.2, by have h : max (dep a) (dep b) + 1 ≤ 60 := h.d; omega, h.g, h.l⟩
theorem ok_withN {kn : Nat} (F : FnP K "with_numbers" s_with_numbers f fd) (T : ShC K mg C) (J : Joins K mg) (GN : MtR2 P w K mg base C "number" ["self", "thing"] kn (spNum K tb C)) (h1 : kn ≤ k) : FnOk P w K mg base CX0 (k + 1) f fd ["part", "shelf"] (spWn K tb C) := by
  obtain ⟨A0, gJ, hJ⟩ := J.ex
  refine fok F sc_with_numbers (fun vs H Q E h => ?_) fun A outer s' H vs Q E hr h => ?_
  · obtain ⟨_, _, _, _, _, rfl, _⟩ := h
    rfl
  · obtain ⟨sh, Hd, xs, s, v, rfl, D, ht, hF, dv, hN, q⟩ := h
    have body : PBd (cxOf CX0 P w K mg base n_with_numbers "with_numbers" (defScope s_with_numbers) f fd.code A outer s' H E).nox tb W0 (defBody s_with_numbers) [.dat (enc s), shelfS K C xs] (.rt (fmD xs s)) := by
      cases s with
      | nm v => exact (bd_if (k := false) (td_cmpD (ed_item (d := enc (.nm v)) (f := .str "name") (ed_var 0) ed_int (item_t (atI_nat (j := 0) rfl))) (ed_gRef gJ hJ) (cmp_inStrT.is (by decide +kernel))) (fun h => nomatch h) rfl fun h => bd_left (sd_ret (ed_var 0)))
      | fls => exact (bd_if (k := false) (td_cmpD (ed_item (d := enc .fls) (f := .str "false") (ed_var 0) ed_int (item_t (atI_nat (j := 0) rfl))) (ed_gRef gJ hJ) (cmp_inStrT.is (by decide +kernel))) (fun h => nomatch h) rfl fun h => bd_left (sd_ret (ed_var 0)))
      | bin o a b => exact (bd_if (k := true) (td_cmpD (ed_item (d := enc (.bin o a b)) (f := .str o.word) (ed_var 0) ed_int (item_t (atI_nat (j := 0) rfl))) (ed_gRef gJ hJ) (cmp_inStrT.is (word_in o))) (fun h => bd_left (sd_ret (ed_tup (ad_cons (ed_item (d := enc (.bin o a b)) (f := .str o.word) (ed_var 0) ed_int (item_t (atI_nat (j := 0) rfl)))
          (ad_cons (ed_number 1 T GN (hr.mono h1) (ed_item (d := enc (.bin o a b)) (f := enc a) (ed_var 0) ed_int (item_t (atI_nat (j := 1) rfl))) hN.l') (ad_cons (ed_number 1 T GN (hr.mono h1) (ed_item (d := enc (.bin o a b)) (f := enc b) (ed_var 0) ed_int (item_t (atI_nat (j := 2) rfl))) hN.r') ad_nil))) (by simp)))) rfl fun h => nomatch h)
    obtain ⟨tt, p1, r1⟩ := body
    refine ⟨tt, p1.nox, r1 Hd H Hd H _ _ ⟨⟨rfl, D, ht, fun i sl e => ?_, fun i j us ys a n e1 e2 _ _ => ?_⟩, Gr.refl D, fun i us a e1 _ => ?_⟩ fun u Hd' H' g ht' du => q u Hd' H' g ht' du⟩
    · match i, e with
      | 0, e =>
        cases e
        exact ⟨_, rfl, dv⟩
      | 1, e =>
        cases e
        exact ⟨_, rfl, sh, rfl, hF⟩
    · match i, e1 with
      | 0, e1 => cases e1
      | 1, e1 => cases e1
    · match i, e1 with
      | 0, e1 => cases e1
      | 1, e1 => cases e1
/-- the call of it -/
theorem ed_withN {X : Cx} {ds : List Sl} {a : Expr} {pos p px : Pos} {y : Str} {xs : List S} {s : S} {kw : Nat} (i : Nat) (GW : FnR X.prog X.w X.K X.mg X.base "with_numbers" ["part", "shelf"] kw (spWn X.K tb C)) (hr : Room kw X.A) (ha : PEd X tb a ds (enc s)) (hn : NumP xs s) (hd : ds[i]? = some (shelfS X.K C xs) := by rfl) (hN : X.N[i]? = some y := by rfl) (hv : visB X.env.scope y = true := by rfl) (h1 : (y == ("__debug__" : Str)) = false := by decide) (h2 : (y == ("__classdict__" : Str)) = false := by decide) (hg : Gl X "with_numbers" := by rfl)
    (he : starEach [a, .Name y px] X.env = (false, eval a X.env) :: starEach [.Name y px] X.env := by rfl) (he2 : starEach [.Name y px] X.env = (false, eval (.Name y px) X.env) :: starEach [] X.env := by rfl) (hpl : (backTo pos (starEach [.Name y px] X.env)).any (·.1) = false := by rfl) :
    PEd X tb (.Call (.Name "with_numbers" p) [a, .Name y px] [] pos) ds (fmD xs s) := by
  obtain ⟨fa, fd, F, hm, hk, hb⟩ := GW.ex
  obtain ⟨t, p1, q1⟩ := ha
  refine ⟨_, pe_call F hr hg hm hk hb .nil (pass0 (X := X)) (pa_cons p1 (pa_cons (pe_var hN (visB_ok hv) h1 h2) pa_nil he2) he) (by decide) he hpl, fun Hd H σ E Q q => q1 Hd H σ E _ fun v Hd1 H1 g1 dv => ?_⟩
  have E1 := E.up g1
  obtain ⟨o, e1, e2⟩ := E1.sl i _ hd
  cases o with
  | none => exact e2.elim
  | some w =>
    obtain ⟨sh, rfl, F⟩ : ∃ sh, w = .ref sh ∧ ShF X.K C sh Hd1 Hd1 xs := e2
    exact ⟨_, e1, sh, Hd1, xs, s, v, rfl, g1.h, E1.tb, F, dv, hn, fun u Hd2 H2 g2 t2 du => q u Hd2 H2 (g1.trans g2) du⟩
def rNumbered (ds : List PyData) (xs : List PyData) : Prop := ∃ s : S, ds = [enc s] ∧ Ok s ∧ dep s ≤ 30 ∧ sz s < 900000 ∧ xs = (lp s []).map (fmD (lp s []))
theorem ok_numbered {kc kw : Nat} (F : FnP K "numbered" s_numbered f fd) (T : ShC K mg C) (GC : FnR P w K mg base "shelved" ["statement"] kc (spShelved K tb C)) (GW : FnR P w K mg base "with_numbers" ["part", "shelf"] kw (spWn K tb C)) (h1 : kc ≤ k) (h2 : kw ≤ k) :
    FnOk P w K mg base CX0 (k + 1) f fd ["statement"] (spO K tb 1 rNumbered) := by
  obtain ⟨fC, fdC, FC, mC, kC, bC⟩ := GC.ex
  have nd := sc_numbered.nd
  refine F.ok sc_numbered (fun vs H Q E h => ?_) (fun cdv A outer s' H vs Q E hr h => ?_)
  · obtain ⟨_, _, _, h, _⟩ := h
    exact h
  · obtain ⟨Hd, ds, xs, hl, D, ht, dv, ⟨s, rfl, hok, hd, hz, rfl⟩, q⟩ := h
    cases dv with
    | @cons v0 _ _ _ m1 m2 =>
      cases m2
      have g60 : Good 60 (lp s []) := lp_good (n := 60) s [] hok (by omega) fun _ h => nomatch h
      have ll : (lp s []).length ≤ 0 + sz s := lp_len s []
      have rest : PBd (cxOf CX0 P w K mg base n_numbered "numbered" (defScope s_numbered) f cdv A outer s' H E).nox tb W0 ((defBody s_numbered).drop 1) [.dat (enc s), shelfS K C (lp s []), .no] (.ro ((lp s []).map (fmD (lp s [])))) := by
        refine bd_left (sd_retO (od_lcGY (g := gName 2) (own := [("part", 2)]) (lp s []) enc (fmD (lp s [])) (fun y => [.dat (enc s), shelfS K C (lp s []), .dat (enc y)]) rfl nd (id_list (ed_things 1 T)) (by omega) (blkOk_by (N := n_numbered) (sc := defScope s_numbered) (by decide +kernel)) (fun _ _ _ _ _ => pg_name nd rfl (Or.inl rfl)) (fun y _ => tgt_name 2) (fun y hy s2 H2 C2 cl fp => ?_)))
        have hy2 := g60 y hy
        exact ed_withN 1 GW (hr.mono h2) (ed_var 2) ⟨hy2.1, hy2.2, g60, by omega⟩
      obtain ⟨t2, p2, r2⟩ := rest
      refine ⟨_, PSs.nox (pss_cons (ps_set (i := 1) nd rfl (Or.inr rfl) (pe_call FC (hr.mono h1) rfl mC kC bC .nil pass0 (pa_cons (pv 0) pa_nil))) p2), ?_⟩
      refine ⟨_, rfl, Hd, s, _, rfl, D, ht, m1, hok, hd, by omega, fun sh t r Hd' H' W => ?_⟩
      obtain ⟨G, s1, F1⟩ := W.frozen
      refine r2 Hd H _ H' _ _ ⟨⟨rfl, G.h, W.tb, fun i sl e => ?_, fun i j us ys a n e1 e2 _ _ => ?_⟩, G, fun i us a e1 _ => ?_⟩ fun fo ws Hd2 H2 g ht' h0 hn hl2 hd2 => q fo ws Hd2 H2 g ht' h0 hn hl2 hd2
      · match i, e with
        | 0, e =>
          cases e
          exact ⟨_, rfl, Dp.up m1 G.d⟩
        | 1, e =>
          cases e
          exact ⟨_, rfl, sh, rfl, F1⟩
        | 2, e =>
          cases e
          exact ⟨_, rfl, trivial⟩
      · match i, e1 with
        | 0, e1 => cases e1
        | 1, e1 => cases e1
        | 2, e1 => cases e1
      · match i, e1 with
        | 0, e1 => cases e1
        | 1, e1 => cases e1
        | 2, e1 => cases e1
end
end K7
namespace K7
open PySem PySem.Spec PyProof.Rows L2 DL LM RM PK TR
local macro_rules | `(tactic| walk_at "side") => `(tactic| first | assumption | decide | omega | (simp; done) | (simp; omega))
local macro_rules | `(tactic| walk_at "bin") => `(tactic| first | exact bin_add | exact bin_sub | exact bin_mul (by walk_at "side") | exact bin_fdiv (by walk_at "side") | exact bin_mod (by walk_at "side") | exact bin_catm (by walk_at "side") | exact bin_cat (by walk_at "side") | exact bin_addS (by walk_at "side"))
local macro_rules | `(tactic| walk_at "cmp") => `(tactic| first | exact cmp_lt | exact cmp_le | exact cmp_gt | exact cmp_ge | exact cmp_eqI | exact cmp_neI | exact cmp_eqS | exact cmp_neS | exact cmp_eqB | exact cmp_neB | exact cmp_isN | exact cmp_notN)
local macro_rules | `(tactic| walk_at "slc") => `(tactic| first | exact slc_lm | exact slc_l | exact slc_s (by walk_at "side"))
local macro_rules | `(tactic| walk_at "len") => `(tactic| first | exact len_lm | exact len_l rfl | exact len_t rfl | exact len_s (by walk_at "side"))
local macro_rules | `(tactic| walk_at "room") => `(tactic| exact Room.mono (by assumption) (by decide))
abbrev s_is_number_below : Stmt := topS 16
abbrev n_is_number_below : List Str := ["thing", "limit"]
abbrev p_is_number_below : List Str := ["thing", "limit"]
theorem sc_is_number_below : FnScope n_is_number_below p_is_number_below (defScope s_is_number_below) := ⟨rfl, rfl, rfl, by decide +kernel, rfl, by decide +kernel, by decide +kernel⟩
section
variable {P : Program} {w : World} {K : PySem.W.Frag} {mg : Str → Option Value} {base : Heap} {f : Addr} {fd : FuncData} {tb : List Addr} {k : Nat}
theorem noN_isNo (d : PyData) : isNo d = noN d := by cases d <;> rfl
def rBelow (ds : List PyData) (d : PyData) : Prop := ∃ (e : PyData) (n : Nat), ds = [e, .int n] ∧ d = .bool (numB e n)
theorem ok_below (F : FnP K "is_number_below" s_is_number_below f fd) (mi : mg "isinstance" = none) (mI : mg "int" = none) (mb : mg "bool" = none) : FnOk P w K mg base CX0 (k + 1) f fd ["thing", "limit"] (spD K tb 2 rBelow) := by
  refine fn_ok F sc_is_number_below (by decide) ?_
  rintro ds d ⟨e, n, rfl, rfl⟩ A outer s H E hr
  have other : numB e n = false → kitB (tyD e) "int" = some false → PBd (cxOf CX0 P w K mg base n_is_number_below "is_number_below" (defScope s_is_number_below) f fd.code A outer s H E).nox tb W0 (defBody s_is_number_below) (sd n_is_number_below [e, .int n]) (.rt (.bool (numB e n))) := fun h2 h3 => by
    rw [h2]
    exact bd_left (sd_ret (ed_and (k := false) (ed_isi (T := "int") h3 mi mI (ed_var 0)) (fun z => nomatch z) (fun _ => rfl)))
  cases e with
  | int i =>
    refine bd_left (sd_ret (ed_and (k := true) (ed_isi (T := "int") (d := .int i) (by show kitB "int" "int" = some true; decide +kernel) mi mI (ed_var 0)) (fun _ => ed_and (k := true) (ed_not (k := false) (ed_isi (T := "bool") (d := .int i) (by show kitB "int" "bool" = some false; decide +kernel) mi mb (ed_var 0))) (fun _ => ed_one (ed_chain ed_int (ed_var 0) (ed_var 1) cmp_le cmp_lt)) (fun z => nomatch z)) (fun z => nomatch z)))
  | bool b => exact bd_left (sd_ret (ed_and (k := true) (ed_isi (T := "int") (d := .bool b) (by show kitB "bool" "int" = some true; decide +kernel) mi mI (ed_var 0)) (fun _ => ed_and (k := false) (ed_not (k := true) (ed_isi (T := "bool") (d := .bool b) (by show kitB "bool" "bool" = some true; decide +kernel) mi mb (ed_var 0))) (fun z => nomatch z) (fun _ => rfl)) (fun z => nomatch z)))
  | none => exact other rfl (by show kitB "NoneType" "int" = some false; decide +kernel)
  | str b => exact other rfl (by show kitB "str" "int" = some false; decide +kernel)
  | list b => exact other rfl (by show kitB "list" "int" = some false; decide +kernel)
  | tuple b => exact other rfl (by show kitB "tuple" "int" = some false; decide +kernel)
  | dict b => exact other rfl (by show kitB "dict" "int" = some false; decide +kernel)
end
end K7
namespace K7
open PySem PySem.Spec PyProof.Rows L2 DL LM RM PT SHLF TR TA TH PF HV
local macro_rules | `(tactic| walk_at "side") => `(tactic| first | assumption | decide | omega | (simp; done) | (simp; omega))
local macro_rules | `(tactic| walk_at "bin") => `(tactic| first | exact bin_add | exact bin_sub | exact bin_mul (by walk_at "side") | exact bin_fdiv (by walk_at "side") | exact bin_mod (by walk_at "side") | exact bin_catm (by walk_at "side") | exact bin_cat (by walk_at "side") | exact bin_addS (by walk_at "side"))
local macro_rules | `(tactic| walk_at "cmp") => `(tactic| first | exact cmp_lt | exact cmp_le | exact cmp_gt | exact cmp_ge | exact cmp_eqI | exact cmp_neI | exact cmp_eqS | exact cmp_neS | exact cmp_eqB | exact cmp_neB | exact cmp_isN | exact cmp_notN)
local macro_rules | `(tactic| walk_at "slc") => `(tactic| first | exact slc_lm | exact slc_l | exact slc_s (by walk_at "side"))
local macro_rules | `(tactic| walk_at "len") => `(tactic| first | exact len_lm | exact len_l rfl | exact len_t rfl | exact len_s (by walk_at "side"))
local macro_rules | `(tactic| walk_at "room") => `(tactic| exact Room.mono (by assumption) (by decide))
abbrev s_refuse_missing : Stmt := topS 18
abbrev n_refuse_missing : List Str := ["tree", "number"]
abbrev p_refuse_missing : List Str := ["tree", "number"]
theorem sc_refuse_missing : FnScope n_refuse_missing p_refuse_missing (defScope s_refuse_missing) := ⟨rfl, rfl, rfl, by decide +kernel, rfl, by decide +kernel, by decide +kernel⟩
abbrev s_truths_of : Stmt := topS 19
abbrev n_truths_of : List Str := ["tree", "form", "truths", "word", "_", "names", "pairs", "first", "second"]
abbrev p_truths_of : List Str := ["tree", "form", "truths"]
theorem sc_truths_of : FnScope n_truths_of p_truths_of (defScope s_truths_of) := ⟨rfl, rfl, rfl, by decide +kernel, rfl, by decide +kernel, by decide +kernel⟩
abbrev s_truths_of_then : Stmt := topS 20
abbrev n_truths_of_then : List Str := ["tree", "pairs", "truths", "first", "second", "number", "parent", "_"]
abbrev p_truths_of_then : List Str := ["tree", "pairs"]
theorem sc_truths_of_then : FnScope n_truths_of_then p_truths_of_then (defScope s_truths_of_then) := ⟨rfl, rfl, rfl, by decide +kernel, rfl, by decide +kernel, by decide +kernel⟩
abbrev s_holds : Stmt := topS 17
abbrev n_holds : List Str := ["tree", "number", "statement", "truths", "form"]
abbrev p_holds : List Str := ["tree", "number", "statement"]
theorem sc_holds : FnScope n_holds p_holds (defScope s_holds) := ⟨rfl, rfl, rfl, by decide +kernel, rfl, by decide +kernel, by decide +kernel⟩
section
variable {P : Program} {w : World} {K : PySem.W.Frag} {mg : Str → Option Value} {base : Heap} {f C : Addr} {fd : FuncData} {tb : List Addr} {k : Nat}
def rRefuse (ds : List PyData) (d : PyData) : Prop := ∃ (ws : List PyData) (n : Nat), ds = [.tuple ws, .int (n : Int)] ∧ n < ws.length ∧ d = .none
theorem ok_refuse {kb : Nat} (F : FnP K "refuse_missing" s_refuse_missing f fd) (GB : FnG P w K mg base tb "is_number_below" ["thing", "limit"] kb rBelow) (ml : mg "len" = none) (h1 : kb ≤ k) :
    FnOk P w K mg base CX0 (k + 1) f fd ["tree", "number"] (spD K tb 2 rRefuse) := by
  refine fn_okN F sc_refuse_missing (by decide) ?_
  rintro ds d ⟨ws, n, rfl, hn, rfl⟩ A outer s H E hr
  refine ⟨_, bd_cons (sd_if (o := .nx _) (k := false) ((td_not (td_val (ed_call GB (hr.mono h1) (ad_cons (ed_var 1) (ad_cons (ed_len ml (ed_var 0) (len_t rfl)) ad_nil)) ⟨.int (n : Int), ws.length, rfl, rfl⟩))).is ?_) (fun h => nomatch h) fun _ => bd_nil) bd_nil, rfl⟩
  show (!(decide ((0 : Int) ≤ (n : Int)) && decide ((n : Int) < (ws.length : Int)))) = false
  rw [decide_eq_true (show (0 : Int) ≤ (n : Int) by omega), decide_eq_true (show (n : Int) < (ws.length : Int) by omega)] <;> rfl
def rThen (ds : List PyData) (xs : List PyData) : Prop := ∃ (T : List Wo) (one other : Nat → Bool), ds = [encT T, .list (pairsD T.length one other)] ∧ ParT T ∧ T.length ≤ 1000 ∧ xs = colV T.length (thB T one other)
theorem ok_then (F : FnP K "truths_of_then" s_truths_of_then f fd) (ml : mg "len" = none) (mr : mg "range" = none) : FnOk P w K mg base CX0 (k + 1) f fd ["tree", "pairs"] (spO K tb 2 rThen) := by
  refine fno_ok F sc_truths_of_then (by decide) ?_
  rintro ds xs ⟨T, one, other, rfl, hT, hl, rfl⟩ A outer s H E hr
  have nd := sc_truths_of_then.nd
  have lm : (T.map encW).length = T.length := List.length_map _
  have hpos := hT.pos
  let base : Nat → Bool := fun j => !one j || other j
  have e0 : ((List.range T.length).filter fun _ => true).map (fun k => PyData.bool (other k || !one k)) = mkT T base (T.length - 1) := by
    rw [List.filter_eq_self.mpr fun _ _ => rfl]
    unfold mkT
    refine List.map_congr_left fun k hk => ?_
    rw [stT_top (List.mem_range.mp hk), Bool.or_comm]
  refine bd_cons ((sd_setLcGO (g := gPair K 3 4) (own := [("first", 3), ("second", 4)]) 2 (List.range T.length) (fun k => .tuple [.bool (one k), .bool (other k)]) (fun k => .bool (other k || !one k)) (fun k => [.dat (encT T), .dat (.list (pairsD T.length one other)), .no, .dat (.bool (one k)), .dat (.bool (other k)), .no, .no, .no]) (fun _ => true) rfl nd (id_list (ed_var 1)) (by rw [List.length_range]; omega)
    (blkOk_by (N := n_truths_of_then) (sc := defScope s_truths_of_then) (by decide +kernel)) (fun _ _ _ _ _ => pg_pair rfl nd) (fun y _ => tgt_two 3 4) (fun y _ s2 H2 C2 cl fp => ⟨tYes, pts_nil, fun Hd H σ E Q z => z Hd H (Gr.refl E.dh)⟩) (fun y _ _ s2 H2 C2 cl fp => ed_or (k := other y) (ed_var 4) (fun q => by rw [q, Bool.false_or]; exact ed_one (ed_not (ed_var 3))) (fun q => by rw [q, Bool.true_or]))).is (by rw [e0])) ?_
  refine bd_cons (es := [.dat (encT T), .dat (.list (pairsD T.length one other)), .own (mkT T base 0), .no, .no, .no, .no, .no]) ?_ ?_
  · refine (sd_for (items := dwnD ((T.length : Int) - 1) (T.length - 1)) 5 (fun i => [.dat (encT T), .dat (.list (pairsD T.length one other)), .own (mkT T base (T.length - 1 - i)), .no, .no, .no, .no, .no]) PassesOwn.never rfl ?_ nd rfl (fun i d e => ?_)).is ?_
    · exact PId.is (id_rngDown (i := (T.length : Int) - 1) (j := 0) mr (ed_bin (ed_len ml (ed_var 0) (len_t lm)) ed_int bin_sub) ed_int (ed_neg ed_int) ⟨by omega, by omega, by omega, by omega⟩) (by rw [show ((T.length : Int) - 1 - 0).toNat = T.length - 1 by omega])
    · obtain ⟨hi, rfl⟩ := dwn_at e
      generalize hm : T.length - 1 - i = m
      have hm1 : T.length - 1 - (i + 1) = m - 1 := by omega
      have em : ((T.length : Int) - 1 - (i : Int)) = (m : Int) := by omega
      have hm0 : 0 < m := by omega
      have hml : m < T.length := by omega
      obtain ⟨p, hp, ep⟩ := hT.par m hm0 hml
      rw [hm1, em]
      refine bd_wk (es := [.dat (encT T), .dat (.list (pairsD T.length one other)), .own (mkT T base (m - 1)), .no, .no, .dat (.int (m : Int)), .dat (.int (p : Int)), .dat (.tuple ((T.getD m w0).2.map .str))]) ?_ (.same _ (.same _ (.same _ (.same _ (.same _ (.no _ (.no _ (.no _ .nil))))))))
      have wt : atI (T.map encW) (m : Int) = some (.tuple [.int (p : Int), .tuple ((T.getD m w0).2.map .str)]) := by
        have e3 : T[m]? = some (T.getD m w0) := by rw [List.getD_eq_getElem?_getD, List.getElem?_eq_getElem hml] <;> rfl
        refine atI_nat ?_
        rw [List.getElem?_map, e3]
        show some (PyData.tuple [parE (T.getD m w0).1, _]) = _
        rw [ep] <;> rfl
      refine bd_cons (sd_unpack 6 7 (d1 := .int (p : Int)) (d2 := .tuple ((T.getD m w0).2.map .str)) (ed_item (d := .tuple (T.map encW)) (ed_var 0) (ed_var 5) (item_t wt)) rfl nd) ?_
      have ix : ixN (mkT T base m).length (p : Int) = some p := by
        unfold ixN
        rw [mkT_len, if_pos (by omega), if_pos (by omega), Int.toNat_natCast]
      exact (bd_cons ((sd_setItem 2 (xs := mkT T base m) (n := p) (ed_and (k := stT T base m p) (d := .bool (stT T base m p && stT T base m m)) (ed_itemOwn 2 (ed_var 6) (atI_nat (mkT_at (by omega)))) (fun q => by rw [q, Bool.true_and]; exact ed_one (ed_itemOwn 2 (ed_var 5) (atI_nat (mkT_at hml)))) (fun q => by rw [q, Bool.false_and])) (ed_var 6) ix).is (by rw [stT_step hT hm0 hml ep hp] <;> rfl)) bd_nil)
    · show Out.nx [_, _, .own (mkT T base (T.length - 1 - (dwnD ((T.length : Int) - 1) (T.length - 1)).length)), _, _, _, _, _] = _
      rw [dwn_len, Nat.sub_self]
  · refine bd_left ((sd_retOwn 2).is ?_)
    refine congrArg Out.ro ?_
    unfold mkT colV
    refine List.map_congr_left fun k _ => ?_
    rw [stT_zero] <;> rfl
def rTruths (ds : List PyData) (out : List PyData) : Prop := ∃ (T : List Wo) (xs : List S) (i : Nat) (s : S), ds = [encT T, fmD xs s, .list ((xs.take i).map fun t => .list (colV T.length (hB T t)))] ∧ xs[i]? = some s ∧ Clo xs ∧ xs.Nodup ∧ ParT T ∧ T.length ≤ 1000 ∧ out = colV T.length (hB T s)
theorem num_int {xs : List S} (hn : xs.Nodup) {i j : Nat} {a : S} (hj : j < i) (e : xs[j]? = some a) (T : List Wo) : numD xs a = .int (j : Int) ∧ ((xs.take i).map fun t => PyData.list (colV T.length (hB T t)))[j]? = some (.list (colV T.length (hB T a))) := by
  refine ⟨?_, ?_⟩
  · unfold numD
    rw [num_of hn e]
  · rw [List.getElem?_map, List.getElem?_take, if_pos hj, e] <;> rfl
theorem ok_truths {kt : Nat} (F : FnP K "truths_of" s_truths_of f fd) (GT : FnO P w K mg base tb "truths_of_then" ["tree", "pairs"] kt rThen) (mls : mg "list" = none) (mz : mg "zip" = none) (h1 : kt ≤ k) : FnOk P w K mg base CX0 (k + 1) f fd ["tree", "form", "truths"] (spO K tb 3 rTruths) := by
  refine fno_ok F sc_truths_of (by decide) ?_
  rintro ds out ⟨T, xs, i, s, rfl, hs, hc, hn, hT, hl, rfl⟩ A outer s' H E hr
  have nd := sc_truths_of.nd
  cases s with
  | nm v =>
    refine bd_cons (sd_set 3 (ed_item (d := enc (.nm v)) (f := .str "name") (ed_var 1) ed_int (item_t (atI_nat (j := 0) rfl))) nd) ?_
    refine bd_if (k := true) ((td_cmpD (ed_var 3) ed_str cmp_eqS).is (by decide +kernel)) (fun _ => ?_) rfl fun h => nomatch h
    refine bd_left (sd_retO ((od_lcGY (g := gPair K 4 5) (own := [("_", 4), ("names", 5)]) T encW (fun y => .bool (decide (v ∈ y.2))) (fun y => [.dat (encT T), .dat (enc (.nm v)), .dat (.list ((xs.take i).map fun t => .list (colV T.length (hB T t)))), .dat (.str "name"), .dat (parE y.1), .dat (.tuple (y.2.map .str)), .no, .no, .no]) rfl nd (id_tup (ed_var 0)) (by omega)
      (blkOk_by (N := n_truths_of) (sc := defScope s_truths_of) (by decide +kernel)) (fun _ _ _ _ _ => pg_pair rfl nd) (fun y _ => tgt_two 4 5) (fun y _ s2 H2 C2 cl fp => ed_cmpD (ed_item (d := enc (.nm v)) (f := .str v) (ed_var 1) ed_int (item_t (atI_nat (j := 1) rfl))) (ed_var 5) cmp_inStrT)).is ?_))
    exact (map_getD T w0 fun y => PyData.bool (decide (v ∈ y.2))).symm
  | fls =>
    refine bd_cons (sd_set 3 (ed_item (d := enc .fls) (f := .str "false") (ed_var 1) ed_int (item_t (atI_nat (j := 0) rfl))) nd) ?_
    refine bd_if (k := false) ((td_cmpD (ed_var 3) ed_str cmp_eqS).is (by decide +kernel)) (fun h => nomatch h) rfl fun _ => ?_
    refine bd_if (k := true) ((td_cmpD (ed_var 3) ed_str cmp_eqS).is (by decide +kernel)) (fun _ => ?_) rfl fun h => nomatch h
    refine bd_left (sd_retO ((od_lcGY (g := gName 4) (own := [("_", 4)]) T encW (fun y => .bool false) (fun y => [.dat (encT T), .dat (enc .fls), .dat (.list ((xs.take i).map fun t => .list (colV T.length (hB T t)))), .dat (.str "false"), .dat (encW y), .no, .no, .no, .no]) rfl nd (id_tup (ed_var 0)) (by omega)
      (blkOk_by (N := n_truths_of) (sc := defScope s_truths_of) (by decide +kernel)) (fun _ _ _ _ _ => pg_name nd rfl (Or.inl rfl)) (fun y _ => tgt_name 4) (fun y _ s2 H2 C2 cl fp => ed_bl)).is ?_))
    exact (map_getD T w0 fun y => PyData.bool false).symm
  | bin o a b =>
    obtain ⟨⟨ja, la, ea⟩, ⟨jb, lb, eb⟩⟩ := hc.h i o a b hs
    obtain ⟨na, ta⟩ := num_int hn la ea T
    obtain ⟨nb, tb'⟩ := num_int hn lb eb T
    have ef : fmD xs (.bin o a b) = .tuple [.str o.word, .int (ja : Int), .int (jb : Int)] := by
      show PyData.tuple [.str o.word, numD xs a, numD xs b] = _
      rw [na, nb]
    rw [ef]
    refine bd_cons (sd_set 3 (ed_item (d := .tuple [.str o.word, .int (ja : Int), .int (jb : Int)]) (f := .str o.word) (ed_var 1) ed_int (item_t (atI_nat (j := 0) rfl))) nd) ?_
    refine bd_if (k := false) ((td_cmpD (ed_var 3) ed_str cmp_eqS).is (by cases o <;> decide +kernel)) (fun h => nomatch h) rfl fun _ => ?_
    refine bd_if (k := false) ((td_cmpD (ed_var 3) ed_str cmp_eqS).is (by cases o <;> decide +kernel)) (fun h => nomatch h) rfl fun _ => ?_
    refine bd_cons ((sd_set 6 (ed_listZip rfl mls mz (ed_item (ed_var 2) (ed_item (d := .tuple [.str o.word, .int (ja : Int), .int (jb : Int)]) (f := .int (ja : Int)) (ed_var 1) ed_int (item_t (atI_nat (j := 1) rfl))) (item_l (atI_nat ta))) (ed_item (ed_var 2) (ed_item (d := .tuple [.str o.word, .int (ja : Int), .int (jb : Int)]) (f := .int (jb : Int)) (ed_var 1) ed_int (item_t (atI_nat (j := 2) rfl))) (item_l (atI_nat tb')))) nd).is (by rw [zip_cols])) ?_
    have pr : ∀ (F : Bool → Bool → Bool), (List.range T.length).map (fun k => PyData.bool (F (hB T a k) (hB T b k))) = colV T.length fun k => F (hB T a k) (hB T b k) := fun F => rfl
    cases o with
    | and =>
      refine bd_if (k := true) ((td_cmpD (ed_var 3) ed_str cmp_eqS).is (by decide +kernel)) (fun _ => ?_) rfl fun h => nomatch h
      exact bd_left (sd_retO (od_lcGY (g := gPair K 7 8) (own := [("first", 7), ("second", 8)]) (List.range T.length) (fun k => .tuple [.bool (hB T a k), .bool (hB T b k)]) (fun k => .bool (hB T a k && hB T b k)) (fun y => [.dat (encT T), _, _, _, .no, .no, _, .dat (.bool (hB T a y)), .dat (.bool (hB T b y))]) rfl nd (id_list (ed_var 6)) (by rw [List.length_range]; omega)
        (blkOk_by (N := n_truths_of) (sc := defScope s_truths_of) (by decide +kernel)) (fun _ _ _ _ _ => pg_pair rfl nd) (fun y _ => tgt_two 7 8) (fun y _ s2 H2 C2 cl fp => ed_and (k := hB T a y) (ed_var 7) (fun q => by rw [q, Bool.true_and]; exact ed_one (ed_var 8)) (fun q => by rw [q, Bool.false_and]))))
    | or =>
      refine bd_if (k := false) ((td_cmpD (ed_var 3) ed_str cmp_eqS).is (by decide +kernel)) (fun h => nomatch h) rfl fun _ => ?_
      refine bd_if (k := true) ((td_cmpD (ed_var 3) ed_str cmp_eqS).is (by decide +kernel)) (fun _ => ?_) rfl fun h => nomatch h
      exact bd_left (sd_retO (od_lcGY (g := gPair K 7 8) (own := [("first", 7), ("second", 8)]) (List.range T.length) (fun k => .tuple [.bool (hB T a k), .bool (hB T b k)]) (fun k => .bool (hB T a k || hB T b k)) (fun y => [.dat (encT T), _, _, _, .no, .no, _, .dat (.bool (hB T a y)), .dat (.bool (hB T b y))]) rfl nd (id_list (ed_var 6)) (by rw [List.length_range]; omega)
        (blkOk_by (N := n_truths_of) (sc := defScope s_truths_of) (by decide +kernel)) (fun _ _ _ _ _ => pg_pair rfl nd) (fun y _ => tgt_two 7 8) (fun y _ s2 H2 C2 cl fp => ed_or (k := hB T a y) (ed_var 7) (fun q => by rw [q, Bool.false_or]; exact ed_one (ed_var 8)) (fun q => by rw [q, Bool.true_or]))))
    | thn =>
      refine bd_if (k := false) ((td_cmpD (ed_var 3) ed_str cmp_eqS).is (by decide +kernel)) (fun h => nomatch h) rfl fun _ => ?_
      refine bd_if (k := false) ((td_cmpD (ed_var 3) ed_str cmp_eqS).is (by decide +kernel)) (fun h => nomatch h) rfl fun _ => ?_
      exact bd_left (sd_retO (od_call GT (hr.mono h1) (ad_cons (ed_var 0) (ad_cons (ed_var 6) ad_nil)) ⟨T, hB T a, hB T b, rfl, hT, hl, rfl⟩))
def rHolds (ds : List PyData) (d : PyData) : Prop := ∃ (T : List Wo) (n : Nat) (s : S), ds = [encT T, .int (n : Int), enc s] ∧ ParT T ∧ T.length ≤ 1000 ∧ n < T.length ∧ Ok s ∧ dep s ≤ 30 ∧ sz s < 900000 ∧ d = .bool (hB T s n)
theorem ok_holds {kr kn kt : Nat} (F : FnP K "holds" s_holds f fd) (GR : FnG P w K mg base tb "refuse_missing" ["tree", "number"] kr rRefuse) (GN : FnG P w K mg base tb "numbered" ["statement"] kn (asD rNumbered)) (GT : FnO P w K mg base tb "truths_of" ["tree", "form", "truths"] kt rTruths) (h1 : kr ≤ k) (h2 : kn ≤ k) (h3 : kt ≤ k) :
    FnOk P w K mg base CX0 (k + 1) f fd ["tree", "number", "statement"] (spD K tb 3 rHolds) := by
  refine fn_ok F sc_holds (by decide) ?_
  rintro ds d ⟨T, n, s, rfl, hT, hl, hn, hok, hd, hz, rfl⟩ A outer s' H E hr
  have nd := sc_holds.nd
  have hc : Clo (lp s []) := lp_clo s [] ⟨fun i o a b e => by cases e⟩
  have hnd : (lp s []).Nodup := lp_nodup s [] List.nodup_nil
  have hlen : (lp s []).length ≤ 0 + sz s := lp_len s []
  obtain ⟨ini, hlast⟩ := lp_last s
  refine bd_cons (sd_expr (ed_call GR (hr.mono h1) (ad_cons (ed_var 0) (ad_cons (ed_var 1) ad_nil)) ⟨T.map encW, n, rfl, by rw [List.length_map]; exact hn, rfl⟩)) ?_
  refine bd_own 3 ?_ nd
  generalize hxs : lp s [] = xs at *
  refine bd_cons (es := [.dat (encT T), .dat (.int (n : Int)), .dat (enc s), .own (xs.map fun t => .list (colV T.length (hB T t))), .no]) ?_ ?_
  · refine (sd_for (items := xs.map (fmD xs)) 4 (fun i => [.dat (encT T), .dat (.int (n : Int)), .dat (enc s), .own ((xs.take i).map fun t => .list (colV T.length (hB T t))), .no]) PassesOwn.never rfl (id_list (ed_call GN (hr.mono h2) (ad_cons (ed_var 2) ad_nil) ⟨_, ⟨s, rfl, hok, hd, hz, rfl⟩, by rw [hxs]⟩)) nd rfl (fun i d e => ?_)).is ?_
    · rw [List.getElem?_map] at e
      cases q : xs[i]? with
      | none => rw [q] at e; cases e
      | some t =>
        rw [q] at e
        cases e
        have hil := (List.getElem?_eq_some_iff.mp q).1
        refine bd_wk (es := [.dat (encT T), .dat (.int (n : Int)), .dat (enc s), .own ((xs.take (i + 1)).map fun t => .list (colV T.length (hB T t))), .dat (fmD xs t)]) ?_ (.same _ (.same _ (.same _ (.same _ (.no _ .nil)))))
        refine (bd_cons (sd_appendB 3 (xs := (xs.take i).map fun t => .list (colV T.length (hB T t))) (d := .list (colV T.length (hB T t))) (POd'.dat (od_peek 3 (od_call GT (hr.mono h3) (ad_cons (ed_var 0) (ad_cons (ed_var 4) (ad_cons (ed_var 3) ad_nil))) ⟨T, xs, i, t, rfl, q, hc, hnd, hT, hl, rfl⟩) (noLs_col _ _))) (by rw [List.length_map, List.length_take]; omega)) bd_nil).is ?_
        rw [List.take_add_one, q, List.map_append] <;> rfl
    · rw [List.length_map, List.take_length]
  · have lt : atI (xs.map fun t => PyData.list (colV T.length (hB T t))) (-1) = some (.list (colV T.length (hB T s))) := by
      rw [hlast, List.map_append]
      exact atI_last ..
    exact bd_left (sd_ret (ed_item (ed_itemOwn 3 (ed_neg ed_int) lt) (ed_var 1) (item_l (atI_nat (colV_at hn)))))
end
end K7
namespace K7
open PySem PySem.Spec PyProof.Rows L2 DL LM RM PK TR
local macro_rules | `(tactic| walk_at "side") => `(tactic| first | assumption | decide | omega | (simp; done) | (simp; omega))
local macro_rules | `(tactic| walk_at "bin") => `(tactic| first | exact bin_add | exact bin_sub | exact bin_mul (by walk_at "side") | exact bin_fdiv (by walk_at "side") | exact bin_mod (by walk_at "side") | exact bin_catm (by walk_at "side") | exact bin_cat (by walk_at "side") | exact bin_addS (by walk_at "side"))
local macro_rules | `(tactic| walk_at "cmp") => `(tactic| first | exact cmp_lt | exact cmp_le | exact cmp_gt | exact cmp_ge | exact cmp_eqI | exact cmp_neI | exact cmp_eqS | exact cmp_neS | exact cmp_eqB | exact cmp_neB | exact cmp_isN | exact cmp_notN)
local macro_rules | `(tactic| walk_at "slc") => `(tactic| first | exact slc_lm | exact slc_l | exact slc_s (by walk_at "side"))
local macro_rules | `(tactic| walk_at "len") => `(tactic| first | exact len_lm | exact len_l rfl | exact len_t rfl | exact len_s (by walk_at "side"))
local macro_rules | `(tactic| walk_at "room") => `(tactic| exact Room.mono (by assumption) (by decide))
abbrev s__law_tree_by : Stmt := topS 27
abbrev n__law_tree_by : List Str := ["_law_cells", "_law_seed", "_law_many", "_law_names", "_law_k", "_law_base", "_law_tree", "_law_cell", "_law_parent", "_law_had", "_law_new", "_law_name"]
abbrev p__law_tree_by : List Str := ["_law_cells", "_law_seed", "_law_many"]
theorem sc__law_tree_by : FnScope n__law_tree_by p__law_tree_by (defScope s__law_tree_by) := ⟨rfl, rfl, rfl, by decide +kernel, rfl, by decide +kernel, by decide +kernel⟩
section
variable {P : Program} {w : World} {K : PySem.W.Frag} {mg : Str → Option Value} {base : Heap} {f : Addr} {fd : FuncData} {tb : List Addr} {k : Nat}
def rTreeBy (ds : List PyData) (d : PyData) : Prop := ∃ (cells : List Int) (seed : Int) (many : Nat), ds = [.list (cells.map .int), .int seed, .int (many : Int)] ∧ cells.length ≤ 1000 ∧ d = encT (treeBy cells seed many)
theorem lc_testT {X : Cx} {c : Expr} {ds : List Sl} {kk : Bool} (h : PTd X tb c ds kk) : ∃ t, PTs X [c] t ∧ EvT X.K tb t ds kk := let ⟨t, p, q⟩ := h; ⟨t, pts_one p, q⟩
theorem ok_treeBy {kn : Nat} (F : FnP K "_law_tree_by" s__law_tree_by f fd) (GN : FnG P w K mg base tb "_law_name_by" ["_law_seed", "_law_k"] kn rName) (ml : mg "len" = none) (mr : mg "range" = none) (mm : mg "min" = none) (ms : mg "sorted" = none) (mls : mg "list" = none) (mt : mg "tuple" = none) (h1 : kn ≤ k) :
    FnOk P w K mg base CX0 (k + 1) f fd ["_law_cells", "_law_seed", "_law_many"] (spD K tb 3 rTreeBy) := by
  refine fn_ok F sc__law_tree_by (by decide) ?_
  rintro ds d ⟨cells, seed, many, rfl, hc, rfl⟩ A outer s H E hr
  have nd := sc__law_tree_by.nd
  have l4 := tNames_len seed
  refine bd_cons (sd_set 3 (d := .list ((tNames seed).map .str)) (((ed_lcY 4 (List.range 4) (fun (j : Nat) => .int (0 + (j : Int))) (fun (j : Nat) => .str (nameBy seed (j : Int))) rfl nd (id_rng1 mr ed_int (by decide) (by decide)) (by decide) (blkOk_by (N := n__law_tree_by) (sc := defScope s__law_tree_by) (by decide +kernel)) (fun _ _ _ _ _ => pg_name nd rfl (Or.inl rfl)) (fun j hj s2 H2 C cl fp => ?_))).is ?_) nd) ?_
  · have hj := List.mem_range.mp hj
    exact ed_call GN (hr.mono h1) (ad_cons (ed_var 1) (ad_cons (ed_var 4) ad_nil)) ⟨seed, 0 + (j : Int), rfl, by omega, by omega, by rw [Int.zero_add]⟩
  · unfold tNames
    rw [List.map_map] <;> rfl
  refine bd_cons (sd_set 5 (ed_tup ad_nil (by decide)) nd) ?_
  refine bd_cons (es := [.dat (.list (cells.map .int)), .dat (.int seed), .dat (.int (many : Int)), .dat (.list ((tNames seed).map .str)), .no, .dat (.tuple ((tBase cells seed).map .str)), .no, .no, .no, .no, .no, .no]) ?_ ?_
  · cases cells with
    | nil => exact sd_if (k := false) (PWd.pt (wd_andf (td_tru (d := .list []) (k := false) (ed_var 0) rfl))) (fun h => nomatch h) fun h => bd_nil.is rfl
    | cons c r =>
      refine sd_if (k := decide (c % 5 = 1)) (PWd.pt (wd_andt (td_tru (d := .list ((c :: r).map .int)) (k := true) (ed_var 0) rfl) (wd_and1 (td_cmpD (ed_bin (ed_item (d := .list ((c :: r).map .int)) (f := .int c) (ed_var 0) ed_int (item_l (atI_nat (j := 0) rfl))) ed_int (by walk_at "bin")) ed_int cmp_eqI)))) (fun h => ?_) fun h => ?_
      · have e : tBase (c :: r) seed = [minS (tNames seed)] := if_pos (of_decide_eq_true h)
        rw [e]
        exact (bd_cons (sd_set 5 (ed_tup (ad_cons (ed_minS rfl mm (ed_var 3) (by omega)) ad_nil) (by simp)) nd) bd_nil).is rfl
      · have e : tBase (c :: r) seed = [] := if_neg (of_decide_eq_false h)
        rw [e]
        exact bd_nil.is rfl
  refine bd_ownL 6 (fs := [encW (none, tBase cells seed)]) (ad_cons ((ed_tup (ad_cons ed_non (ad_cons (ed_var 5) ad_nil)) (by simp)).is (g := encW (none, tBase cells seed)) rfl) ad_nil) (by simp) ?_ nd
  have hlen : ∀ i, (((cells.take many).take i).foldl (tStep seed) [(none, tBase cells seed)]).length ≤ 1001 := fun i => by
    rw [fold_lenT, List.length_take, List.length_take]
    show 1 + _ ≤ _
    omega
  have cutm : DL.cutD (cells.map PyData.int) none (some (many : Int)) = (cells.take many).map PyData.int := by
    rw [cutD_map]
    have := cut_nat cells 0 many
    rw [List.drop_zero, Nat.sub_zero] at this
    rw [← this]
    unfold DL.cutD
    rw [HT.sIx_none]
    have : HT.sIx cells.length 0 (some ((0 : Nat) : Int)) = 0 := by rw [HT.sIx_nat] <;> exact Nat.min_eq_left (Nat.zero_le _)
    rw [this]
  refine bd_cons (es := [.dat (.list (cells.map .int)), .dat (.int seed), .dat (.int (many : Int)), .dat (.list ((tNames seed).map .str)), .no, .dat (.tuple ((tBase cells seed).map .str)), .own ((treeBy cells seed many).map encW), .no, .no, .no, .no, .no]) ?_ ?_
  · refine (sd_for (items := (cells.take many).map .int) 7 (fun i => [.dat (.list (cells.map .int)), .dat (.int seed), .dat (.int (many : Int)), .dat (.list ((tNames seed).map .str)), .no, .dat (.tuple ((tBase cells seed).map .str)), .own ((((cells.take many).take i).foldl (tStep seed) [(none, tBase cells seed)]).map encW), .no, .no, .no, .no, .no]) PassesOwn.never rfl (cutm ▸ id_list (ed_slc (ed_var 0) od_none (od_some (ed_var 2)) slc_l)) nd rfl (fun i d e => ?_)).is ?_
    · obtain ⟨c, hcc, rfl⟩ : ∃ c, (cells.take many)[i]? = some c ∧ d = .int c := by
        rw [List.getElem?_map] at e
        cases q : (cells.take many)[i]? with
        | none => rw [q] at e; cases e
        | some c => rw [q] at e; exact ⟨c, rfl, (Option.some.inj e).symm⟩
      have tk : (cells.take many).take (i + 1) = (cells.take many).take i ++ [c] := by rw [List.take_add_one, hcc] <;> rfl
      have hT := good_fold ((cells.take many).take i) (good_base cells seed)
      have hl := hlen i
      rw [tk, List.foldl_append]
      generalize ((cells.take many).take i).foldl (tStep seed) [(none, tBase cells seed)] = T at hT hl
      have hp := hT.r.pos
      have hpt := tPar_lt hp c
      refine bd_wk (fs := [.dat (.list (cells.map .int)), .dat (.int seed), .dat (.int (many : Int)), .dat (.list ((tNames seed).map .str)), .no, .dat (.tuple ((tBase cells seed).map .str)), .own ((tStep seed T c).map encW), .no, .no, .no, .no, .no]) (es := [.dat (.list (cells.map .int)), .dat (.int seed), .dat (.int (many : Int)), .dat (.list ((tNames seed).map .str)), .no, .dat (.tuple ((tBase cells seed).map .str)), .own ((tStep seed T c).map encW), .dat (.int c), .dat (.int (tPar T c : Int)), .dat (.list ((T.getD (tPar T c) w0).2.map .str)), .dat (.list ((tNew seed c).map .str)), .no]) ?_ (.same _ (.same _ (.same _ (.same _ (.same _ (.same _ (.same _ (.no _ (.no _ (.no _ (.no _ (.no _ .nil))))))))))))
      refine bd_cons (sd_set 8 (ed_bin (ed_var 7) (ed_peek 6 (ed_len ml (ed_var 6) (len_l (List.length_map _))) plain_int) (bin_mod (by omega))) nd) ?_
      refine bd_cons (es := [.dat (.list (cells.map .int)), .dat (.int seed), .dat (.int (many : Int)), .dat (.list ((tNames seed).map .str)), .no, .dat (.tuple ((tBase cells seed).map .str)), .own (T.map encW), .dat (.int c), .dat (.int (tPar T c : Int)), .no, .no, .no]) ?_ ?_
      · refine sd_if (td_cmpD (ed_bin (ed_bin (ed_var 7) ed_int (by walk_at "bin")) ed_int (by walk_at "bin")) ed_int cmp_eqI) (fun h => ?_) fun h => ?_
        · have e : tPar T c = T.length - 1 := if_pos (of_decide_eq_true h)
          rw [e]
          exact (bd_cons (sd_set 8 ((ed_bin (ed_peek 6 (ed_len ml (ed_var 6) (len_l (List.length_map _))) plain_int) ed_int (by walk_at "bin")).is (g := .int ((T.length - 1 : Nat) : Int)) (by congr 1; omega)) nd) bd_nil).is rfl
        · have e : tPar T c = (c % (T.length : Int)).toNat := if_neg (of_decide_eq_false h)
          rw [e, Int.toNat_of_nonneg (Int.emod_nonneg _ (by omega))]
          exact bd_nil.is rfl
      refine bd_cons (sd_set 9 (ed_list mls (ed_item (d := encW (T.getD (tPar T c) w0)) (f := .tuple ((T.getD (tPar T c) w0).2.map .str)) (ed_itemOwn 6 (ed_var 8) (atI_nat (by rw [List.getElem?_map, List.getElem?_eq_getElem hpt, List.getD_eq_getElem?_getD, List.getElem?_eq_getElem hpt] <;> rfl))) ed_int (item_t (atI_nat (j := 1) rfl))) (.inr rfl)) nd) ?_
      refine bd_cons (es := [.dat (.list (cells.map .int)), .dat (.int seed), .dat (.int (many : Int)), .dat (.list ((tNames seed).map .str)), .no, .dat (.tuple ((tBase cells seed).map .str)), .own (T.map encW), .dat (.int c), .dat (.int (tPar T c : Int)), .dat (.list ((T.getD (tPar T c) w0).2.map .str)), .dat (.list ((tNew seed c).map .str)), .no]) ((sd_setLc 10 4 (List.range 4) (fun (j : Nat) => .int (0 + (j : Int))) (fun (j : Nat) => .str (nameBy seed (j : Int))) (tOn c) rfl nd (id_rng1 mr ed_int (by decide) (by decide)) (by decide) (blkOk_by (N := n__law_tree_by) (sc := defScope s__law_tree_by) (by decide +kernel)) (fun _ _ _ _ _ => pg_name nd rfl (Or.inl rfl)) (fun j hj s2 H2 C cl fp => ?_) (fun j hj hp s2 H2 C cl fp => ?_)).is ?_) ?_
      · have hj := List.mem_range.mp hj
        refine lc_testT ?_
        have hdv : 0 < tDiv.getD j 1 ∧ tDiv.getD j 1 < 1073741824 := by
          match j, hj with
          | 0, _ => decide
          | 1, _ => decide
          | 2, _ => decide
          | 3, _ => decide
        have e : (tDiv.map PyData.int).getD (0 + (j : Int)).toNat .none = .int (tDiv.getD j 1) := by
          rw [Int.zero_add, Int.toNat_natCast]
          match j, hj with
          | 0, _ => rfl
          | 1, _ => rfl
          | 2, _ => rfl
          | 3, _ => rfl
        exact td_cmpD (ed_bin (ed_bin (ed_var 7) (ed_item ((ed_lst (ad_cons ed_int (ad_cons ed_int (ad_cons ed_int (ad_cons ed_int ad_nil)))) (by simp)).is (g := .list (tDiv.map .int)) rfl) (ed_var 4) (by exact ItemD.is (item_lo (by omega) (by show (0 : Int) + (j : Int) < 4; omega)) e)) (bin_fdiv hdv)) ed_int (by walk_at "bin")) ed_int cmp_eqI
      · have hj := List.mem_range.mp hj
        have e2 : ((tNames seed).map PyData.str).getD (0 + (j : Int)).toNat .none = .str (nameBy seed (j : Int)) := by
          rw [Int.zero_add, Int.toNat_natCast, List.getD_eq_getElem?_getD, List.getElem?_map]
          unfold tNames
          rw [List.getElem?_map, List.getElem?_range hj] <;> rfl
        exact ed_item (ed_var 3) (ed_var 4) (by exact ItemD.is (item_lo (by omega) (by rw [List.length_map, l4]; omega)) e2)
      · show Out.nx [_, _, _, _, _, _, _, _, _, _, .dat (.list (((List.range 4).filter (tOn c)).map fun (j : Nat) => PyData.str (nameBy seed (j : Int)))), _] = _
        unfold tNew
        rw [List.map_map] <;> rfl
      have l1 := tAll_len (c := c) hT
      have nl : ((T.getD (tPar T c) w0).2).length ≤ 4 := by
        rw [← tNames_len seed]
        exact nodup_len (hT.r.nm _ (mem_getT hpt)).2.1 (hT.n _ (mem_getT hpt))
      have nl2 : (tNew seed c).length ≤ 4 := by
        rw [← tNames_len seed]
        exact nodup_len (tNew_nodup seed c) fun z hz => tNew_mem hz
      have nl3 : ((tNew seed c).filter fun z => !decide (z ∈ (T.getD (tPar T c) w0).2)).length ≤ 4 := Nat.le_trans (List.length_filter_le _ _) nl2
      refine (bd_cons (sd_append 6 (xs := T.map encW) (d := encW (some (tPar T c), sortS (tAll T seed c))) (ed_tup (ad_cons (ed_var 8) (ad_cons (ed_tuple mt (ed_sortS (xs := tAll T seed c) ms ((ed_bin (ed_var 9) (ed_lcX 11 (tNew seed c) PyData.str PyData.str (fun z => !decide (z ∈ (T.getD (tPar T c) w0).2)) rfl nd (id_list (ed_var 10)) (by omega) (blkOk_by (N := n__law_tree_by) (sc := defScope s__law_tree_by) (by decide +kernel)) (fun _ _ _ _ _ => pg_name nd rfl (Or.inl rfl)) (fun z hz s2 H2 C cl fp => lc_testT (td_cmpD (ed_var 11) (ed_var 9) cmp_notInStr)) (fun z hz hp s2 H2 C cl fp => ed_var 11)) (bin_cat (by rw [List.length_map, List.length_map]; omega))).is ?_) (by omega)) (.inl rfl)) ad_nil)) (by simp)) (by rw [List.length_map]; omega)) bd_nil).is ?_
      · unfold tAll
        rw [List.map_append]
      · show _ = Out.nx [_, _, _, _, _, _, .own ((tStep seed T c).map encW), _, _, _, _, _]
        unfold tStep
        rw [List.map_append] <;> rfl
    · have el : ((cells.take many).map PyData.int).length = (cells.take many).length := List.length_map _
      show Out.nx [_, _, _, _, _, _, .own ((((cells.take many).take ((cells.take many).map PyData.int).length).foldl (tStep seed) [(none, tBase cells seed)]).map encW), _, _, _, _, _] = _
      rw [el, List.take_length] <;> rfl
  refine bd_freeze 6 (bd_left (sd_ret (ed_tuple mt (ed_var 6) (.inl rfl))))
end
end K7
namespace K7
open PySem PySem.Spec PyProof.Rows L2 DL LM RM PT SHLF TR TA TH PF HV
local macro_rules | `(tactic| walk_at "side") => `(tactic| first | assumption | decide | omega | (simp; done) | (simp; omega))
local macro_rules | `(tactic| walk_at "bin") => `(tactic| first | exact bin_add | exact bin_sub | exact bin_mul (by walk_at "side") | exact bin_fdiv (by walk_at "side") | exact bin_mod (by walk_at "side") | exact bin_catm (by walk_at "side") | exact bin_cat (by walk_at "side") | exact bin_addS (by walk_at "side"))
local macro_rules | `(tactic| walk_at "cmp") => `(tactic| first | exact cmp_lt | exact cmp_le | exact cmp_gt | exact cmp_ge | exact cmp_eqI | exact cmp_neI | exact cmp_eqS | exact cmp_neS | exact cmp_eqB | exact cmp_neB | exact cmp_isN | exact cmp_notN)
local macro_rules | `(tactic| walk_at "slc") => `(tactic| first | exact slc_lm | exact slc_l | exact slc_s (by walk_at "side"))
local macro_rules | `(tactic| walk_at "len") => `(tactic| first | exact len_lm | exact len_l rfl | exact len_t rfl | exact len_s (by walk_at "side"))
local macro_rules | `(tactic| walk_at "room") => `(tactic| exact Room.mono (by assumption) (by decide))
abbrev s__law_table : Stmt := topS 28
abbrev n__law_table : List Str := ["_law_tree", "_law_statement", "_law_word", "_law_world", "_law_found", "_law_one", "_law_other", "_law_k", "_law_at"]
abbrev p__law_table : List Str := ["_law_tree", "_law_statement"]
theorem sc__law_table : FnScope n__law_table p__law_table (defScope s__law_table) := ⟨rfl, rfl, rfl, by decide +kernel, rfl, by decide +kernel, by decide +kernel⟩
section
variable {P : Program} {w : World} {K : PySem.W.Frag} {mg : Str → Option Value} {base : Heap} {f C : Addr} {fd : FuncData} {tb : List Addr} {k : Nat}
def rTable (n : Nat) (ds : List PyData) (d : PyData) : Prop := ∃ (T : List Wo) (s : S), ds = [encT T, enc s] ∧ ParT T ∧ (T.getD 0 w0).1 = none ∧ T.length ≤ 1000 ∧ dep s ≤ n ∧ d = .list (colV T.length (hB T s))
theorem ixN_lt {n j : Nat} (h : j < n) : ixN n (j : Int) = some j := by
  unfold ixN
  rw [if_pos (by omega), if_pos (by omega), Int.toNat_natCast]
theorem ok_table {n : Nat} (F : FnP K "_law_table" s__law_table f fd) (G : FnG P w K mg base tb "_law_table" ["_law_tree", "_law_statement"] k (rTable n)) (ml : mg "len" = none) (mr : mg "range" = none) : FnOk P w K mg base CX0 (k + 1) f fd ["_law_tree", "_law_statement"] (spD K tb 2 (rTable (n + 1))) := by
  refine fn_ok F sc__law_table (by decide) ?_
  rintro ds d ⟨T, s, rfl, hT, hroot, hl, hd, rfl⟩ A outer s' H E hr
  have nd := sc__law_table.nd
  have lm : (T.map encW).length = T.length := List.length_map _
  refine bd_cons (sd_set 2 (ed_item (d := enc s) (f := .str (wdS s)) (ed_var 1) ed_int (head_item s)) nd) ?_
  have comp : ∀ (F : Nat → Bool), (List.range T.length).map (fun k => PyData.bool (F k)) = colV T.length F := fun F => rfl
  cases s with
  | nm v =>
    refine bd_if (k := true) ((td_cmpD (ed_var 2) ed_str cmp_eqS).is (by show decide (("name" : Str) = "name") = true; decide +kernel)) (fun _ => ?_) rfl fun h => nomatch h
    refine bd_left ((sd_ret (POd'.dat (od_lcGY (g := gName 3) (own := [("_law_world", 3)]) T encW (fun y => .bool (decide (v ∈ y.2))) (fun y => [.dat (encT T), .dat (enc (.nm v)), .dat (.str (wdS (.nm v))), .dat (encW y), .no, .no, .no, .no, .no]) rfl nd (id_tup (ed_var 0)) (by omega)
      (blkOk_by (N := n__law_table) (sc := defScope s__law_table) (by decide +kernel)) (fun _ _ _ _ _ => pg_name nd rfl (Or.inl rfl)) (fun y _ => tgt_name 3) (fun y _ s2 H2 C2 cl fp => ed_cmpD (ed_item (d := enc (.nm v)) (f := .str v) (ed_var 1) ed_int (item_t (atI_nat (j := 1) rfl))) (ed_item (d := encW y) (f := .tuple (y.2.map .str)) (ed_var 3) ed_int (item_t (atI_nat (j := 1) rfl))) cmp_inStrT)))).is ?_)
    exact congrArg (fun l => Out.rt (.list l)) (map_getD T w0 fun y => PyData.bool (decide (v ∈ y.2))).symm
  | fls =>
    refine bd_if (k := false) ((td_cmpD (ed_var 2) ed_str cmp_eqS).is (by show decide (("false" : Str) = "name") = false; decide +kernel)) (fun h => nomatch h) rfl fun _ => ?_
    refine bd_cons (sd_setLcGO (g := gName 3) (own := [("_law_world", 3)]) 4 T encW (fun y => .bool false) (fun y => [.dat (encT T), .dat (enc .fls), .dat (.str "false"), .dat (encW y), .no, .no, .no, .no, .no]) (fun _ => true) rfl nd (id_tup (ed_var 0)) (by omega)
      (blkOk_by (N := n__law_table) (sc := defScope s__law_table) (by decide +kernel)) (fun _ _ _ _ _ => pg_name nd rfl (Or.inl rfl)) (fun y _ => tgt_name 3) (fun y _ s2 H2 C2 cl fp => ⟨tYes, pts_nil, fun Hd H σ E Q z => z Hd H (Gr.refl E.dh)⟩) (fun y _ _ s2 H2 C2 cl fp => ed_cmpD (ed_var 2) ed_str (cmp_neS.is (by decide +kernel)))) ?_
    refine bd_if (k := true) ((td_cmpD (ed_var 2) ed_str cmp_eqS).is (by show decide (("false" : Str) = "false") = true; decide +kernel)) (fun _ => ?_) rfl fun h => nomatch h
    refine bd_freeze 4 (bd_left ((sd_ret (ed_var 4)).is ?_))
    rw [List.filter_eq_self.mpr fun _ _ => rfl]
    exact congrArg (fun l => Out.rt (.list l)) (map_getD T w0 fun y => PyData.bool false).symm
  | bin o a b =>
    have hd : max (dep a) (dep b) + 1 ≤ n + 1 := hd
    refine bd_if (k := false) ((td_cmpD (ed_var 2) ed_str cmp_eqS).is (by show decide (o.word = "name") = false; cases o <;> decide +kernel)) (fun h => nomatch h) rfl fun _ => ?_
    refine bd_cons ((sd_setLcGO (g := gName 3) (own := [("_law_world", 3)]) 4 T encW (fun y => .bool true) (fun y => [.dat (encT T), .dat (enc (.bin o a b)), .dat (.str o.word), .dat (encW y), .no, .no, .no, .no, .no]) (fun _ => true) rfl nd (id_tup (ed_var 0)) (by omega)
      (blkOk_by (N := n__law_table) (sc := defScope s__law_table) (by decide +kernel)) (fun _ _ _ _ _ => pg_name nd rfl (Or.inl rfl)) (fun y _ => tgt_name 3) (fun y _ s2 H2 C2 cl fp => ⟨tYes, pts_nil, fun Hd H σ E Q z => z Hd H (Gr.refl E.dh)⟩) (fun y _ _ s2 H2 C2 cl fp => ed_cmpD (ed_var 2) ed_str (cmp_neS.is (by cases o <;> decide +kernel)))).is (by rw [List.filter_eq_self.mpr fun _ _ => rfl, show T.map (fun _ => PyData.bool true) = mkF T (fun j => !hB T a j || hB T b j) 0 from (map_getD T w0 fun _ => PyData.bool true).symm])) ?_
    refine bd_if (k := false) ((td_cmpD (ed_var 2) ed_str cmp_eqS).is (by show decide (o.word = "false") = false; cases o <;> decide +kernel)) (fun h => nomatch h) rfl fun _ => ?_
    refine bd_cons (sd_set 5 (ed_call G hr (ad_cons (ed_var 0) (ad_cons (ed_item (d := enc (.bin o a b)) (f := enc a) (ed_var 1) ed_int (item_t (atI_nat (j := 1) rfl))) ad_nil)) ⟨T, a, rfl, hT, hroot, hl, by omega, rfl⟩) nd) ?_
    refine bd_cons (sd_set 6 (ed_call G hr (ad_cons (ed_var 0) (ad_cons (ed_item (d := enc (.bin o a b)) (f := enc b) (ed_var 1) ed_int (item_t (atI_nat (j := 2) rfl))) ad_nil)) ⟨T, b, rfl, hT, hroot, hl, by omega, rfl⟩) nd) ?_
    have rng : rngD 0 T.length = (List.range T.length).map fun (k : Nat) => PyData.int (k : Int) := by
      unfold rngD
      exact List.map_congr_left fun i _ => by rw [Int.zero_add]
    cases o with
    | and =>
      refine bd_if (k := true) ((td_cmpD (ed_var 2) ed_str cmp_eqS).is (by show decide (("and" : Str) = "and") = true; decide +kernel)) (fun _ => ?_) rfl fun h => nomatch h
      exact bd_left (sd_ret (POd'.dat (od_lcGY (g := gName 7) (own := [("_law_k", 7)]) (List.range T.length) (fun (k : Nat) => .int (k : Int)) (fun k => .bool (hB T a k && hB T b k)) (fun (y : Nat) => [.dat (encT T), _, _, .no, _, _, _, .dat (.int (y : Int)), .no]) rfl nd (PId.is (id_rngN mr (ed_len ml (ed_var 0) (len_t lm)) rfl (by omega)) rng) (by rw [List.length_range]; omega)
        (blkOk_by (N := n__law_table) (sc := defScope s__law_table) (by decide +kernel)) (fun _ _ _ _ _ => pg_name nd rfl (Or.inl rfl)) (fun y _ => tgt_name 7) (fun y hy s2 H2 C2 cl fp => by
          have hy := List.mem_range.mp hy
          exact ed_and (k := hB T a y) (ed_item (ed_var 5) (ed_var 7) (item_l (atI_nat (colV_at hy)))) (fun q => by rw [q, Bool.true_and]; exact ed_one (ed_item (ed_var 6) (ed_var 7) (item_l (atI_nat (colV_at hy))))) (fun q => by rw [q, Bool.false_and])))))
    | or =>
      refine bd_if (k := false) ((td_cmpD (ed_var 2) ed_str cmp_eqS).is (by show decide (("or" : Str) = "and") = false; decide +kernel)) (fun h => nomatch h) rfl fun _ => ?_
      refine bd_if (k := true) ((td_cmpD (ed_var 2) ed_str cmp_eqS).is (by show decide (("or" : Str) = "or") = true; decide +kernel)) (fun _ => ?_) rfl fun h => nomatch h
      exact bd_left (sd_ret (POd'.dat (od_lcGY (g := gName 7) (own := [("_law_k", 7)]) (List.range T.length) (fun (k : Nat) => .int (k : Int)) (fun k => .bool (hB T a k || hB T b k)) (fun (y : Nat) => [.dat (encT T), _, _, .no, _, _, _, .dat (.int (y : Int)), .no]) rfl nd (PId.is (id_rngN mr (ed_len ml (ed_var 0) (len_t lm)) rfl (by omega)) rng) (by rw [List.length_range]; omega)
        (blkOk_by (N := n__law_table) (sc := defScope s__law_table) (by decide +kernel)) (fun _ _ _ _ _ => pg_name nd rfl (Or.inl rfl)) (fun y _ => tgt_name 7) (fun y hy s2 H2 C2 cl fp => by
          have hy := List.mem_range.mp hy
          exact ed_or (k := hB T a y) (ed_item (ed_var 5) (ed_var 7) (item_l (atI_nat (colV_at hy)))) (fun q => by rw [q, Bool.false_or]; exact ed_one (ed_item (ed_var 6) (ed_var 7) (item_l (atI_nat (colV_at hy))))) (fun q => by rw [q, Bool.true_or])))))
    | thn =>
      refine bd_if (k := false) ((td_cmpD (ed_var 2) ed_str cmp_eqS).is (by show decide (("then" : Str) = "and") = false; decide +kernel)) (fun h => nomatch h) rfl fun _ => ?_
      refine bd_if (k := false) ((td_cmpD (ed_var 2) ed_str cmp_eqS).is (by show decide (("then" : Str) = "or") = false; decide +kernel)) (fun h => nomatch h) rfl fun _ => ?_
      let bs : Nat → Bool := fun j => !hB T a j || hB T b j
      refine bd_cons (es := [.dat (encT T), .dat (enc (.bin .thn a b)), .dat (.str "then"), .no, .own (mkF T bs T.length), .dat (.list (colV T.length (hB T a))), .dat (.list (colV T.length (hB T b))), .no, .no]) ?_ ?_
      · refine (sd_for (items := rngD 0 T.length) 7 (fun i => [.dat (encT T), .dat (enc (.bin .thn a b)), .dat (.str "then"), .no, .own (mkF T bs i), .dat (.list (colV T.length (hB T a))), .dat (.list (colV T.length (hB T b))), .no, .no]) PassesOwn.never rfl (id_rngN mr (ed_len ml (ed_var 0) (len_t lm)) rfl (by omega)) nd rfl (fun i d e => ?_)).is (by rw [rng0_len])
        obtain ⟨hi, rfl⟩ := rng0_at e
        have ca := colV_at (f := hB T a) hi
        have cb := colV_at (f := hB T b) hi
        refine bd_cons (sd_set 8 (ed_var 7) nd) ?_
        by_cases hf : bs i = true
        · refine bd_wk (es := [.dat (encT T), .dat (enc (.bin .thn a b)), .dat (.str "then"), .no, .own (mkF T bs (i + 1)), .dat (.list (colV T.length (hB T a))), .dat (.list (colV T.length (hB T b))), .dat (.int (i : Int)), .dat (.int (i : Int))]) ?_ (.same _ (.same _ (.same _ (.same _ (.same _ (.same _ (.same _ (.no _ (.no _ .nil)))))))))
          rw [← mkF_keep hf]
          refine bd_cons (sd_whileX (o := .nx _) 0 (fun _ => _) PassesOwn.never rfl (fun i h => absurd h (Nat.not_lt_zero _)) (.inl ⟨PTd.is (PWd.pt (wd_and2 (td_cmpD (ed_var 8) ed_non (cmp_notN.is (l := true) rfl)) fun _ => wd_and2 (td_val (ed_item (ed_var 5) (ed_var 7) (item_l (atI_nat ca)))) fun _ => wd_and1 (td_not (td_val (ed_item (ed_var 6) (ed_var 7) (item_l (atI_nat cb))))))) ?_, rfl⟩)) bd_nil
          have hf : (!hB T a i || hB T b i) = true := hf
          revert hf
          cases hB T a i <;> cases hB T b i <;> decide
        · have hf : bs i = false := by cases q : bs i with | true => exact absurd q hf | false => rfl
          obtain ⟨m, Sw, W⟩ := way hT hi
          have pd := path_dn W.z W.s W.e W.d
          have fin := mkF_fail (base := bs) hf pd
          refine bd_wk (es := [.dat (encT T), .dat (enc (.bin .thn a b)), .dat (.str "then"), .no, .own (mkF T bs (i + 1)), .dat (.list (colV T.length (hB T a))), .dat (.list (colV T.length (hB T b))), .dat (.int (i : Int)), .dat .none]) ?_ (.same _ (.same _ (.same _ (.same _ (.same _ (.same _ (.same _ (.no _ (.no _ .nil)))))))))
          rw [← fin]
          have hab : hB T a i = true ∧ hB T b i = false := by
            have hf : (!hB T a i || hB T b i) = false := hf
            revert hf
            cases hB T a i <;> cases hB T b i <;> decide
          rw [hab.1] at ca
          rw [hab.2] at cb
          have e0 : PyData.int (i : Int) = atD Sw m 0 := by
            unfold atD
            rw [if_pos (Nat.zero_le _), W.z]
          refine bd_cons ((sd_while (m + 1) (fun t => [.dat (encT T), .dat (enc (.bin .thn a b)), .dat (.str "then"), .no, .own (setS (mkF T bs i) Sw t), .dat (.list (colV T.length (hB T a))), .dat (.list (colV T.length (hB T b))), .dat (.int (i : Int)), .dat (atD Sw m t)]) PassesOwn.never (by rw [← e0]; rfl) (fun t ht => ?_) ?_).is ?_) bd_nil
          · have ht : t ≤ m := by omega
            have ea : atD Sw m t = .int (Sw t : Int) := if_pos ht
            have hS := W.lt hT.pos ht
            rw [ea]
            refine ⟨PTd.is (PWd.pt (wd_and2 (td_cmpD (ed_var 8) ed_non (cmp_notN.is (l := true) rfl)) fun _ => wd_and2 (td_val (ed_item (ed_var 5) (ed_var 7) (item_l (atI_nat ca)))) fun _ => wd_and1 (td_not (td_val (ed_item (ed_var 6) (ed_var 7) (item_l (atI_nat cb))))))) rfl, ?_⟩
            refine bd_cons (sd_setItem 4 (xs := setS (mkF T bs i) Sw t) ed_bl (ed_var 8) (by rw [setS_len, mkF_len]; exact ixN_lt hS)) ?_
            have wt : atI (T.map encW) (Sw t : Int) = some (encW (T.getD (Sw t) w0)) := by
              refine atI_nat ?_
              rw [List.getElem?_map, List.getD_eq_getElem?_getD, List.getElem?_eq_getElem hS] <;> rfl
            exact bd_cons ((sd_set 8 (ed_item (d := encW (T.getD (Sw t) w0)) (f := parE (T.getD (Sw t) w0).1) (ed_item (d := .tuple (T.map encW)) (ed_var 0) (ed_var 8) (item_t wt)) ed_int (item_t (atI_nat (j := 0) rfl))) nd).is (by rw [atD_next W hroot ht] <;> rfl)) bd_nil
          · have ea : atD Sw m (m + 1) = .none := if_neg (by omega)
            rw [ea]
            exact PWd.pt (wd_andf (td_cmpD (ed_var 8) ed_non (cmp_notN.is (l := false) rfl)))
          · have ea : atD Sw m (m + 1) = .none := if_neg (by omega)
            rw [ea]
      · refine bd_freeze 4 (bd_left ((sd_ret (ed_var 4)).is ?_))
        rw [mkF_end] <;> rfl
theorem table_all (F : FnP K "_law_table" s__law_table f fd) (hm : mg "_law_table" = some (.ref f)) (hb : Binds K fd ["_law_tree", "_law_statement"] []) (ml : mg "len" = none) (mr : mg "range" = none) : ∀ n : Nat, FnG P w K mg base tb "_law_table" ["_law_tree", "_law_statement"] (n + 1) (rTable n)
  | 0 => ⟨f, fd, (fn_ok (k := 0) F sc__law_table (by decide) fun ds d h => by
      obtain ⟨T, s, _, _, _, _, hd, _⟩ := h
      have := dep_pos s
      omega), hm, F.kp, hb⟩
  | n + 1 => ⟨f, fd, ok_table F (table_all F hm hb ml mr n) ml mr, hm, F.kp, hb⟩
end
end K7
namespace K7
open PySem PySem.Spec PyProof.Rows L2 DL LM RM PK PT SHLF TR TA TH PF HV
local macro_rules | `(tactic| walk_at "side") => `(tactic| first | assumption | decide | omega | (simp; done) | (simp; omega))
local macro_rules | `(tactic| walk_at "bin") => `(tactic| first | exact bin_add | exact bin_sub | exact bin_mul (by walk_at "side") | exact bin_fdiv (by walk_at "side") | exact bin_mod (by walk_at "side") | exact bin_catm (by walk_at "side") | exact bin_cat (by walk_at "side") | exact bin_addS (by walk_at "side"))
local macro_rules | `(tactic| walk_at "cmp") => `(tactic| first | exact cmp_lt | exact cmp_le | exact cmp_gt | exact cmp_ge | exact cmp_eqI | exact cmp_neI | exact cmp_eqS | exact cmp_neS | exact cmp_eqB | exact cmp_neB | exact cmp_isN | exact cmp_notN)
local macro_rules | `(tactic| walk_at "slc") => `(tactic| first | exact slc_lm | exact slc_l | exact slc_s (by walk_at "side"))
local macro_rules | `(tactic| walk_at "len") => `(tactic| first | exact len_lm | exact len_l rfl | exact len_t rfl | exact len_s (by walk_at "side"))
local macro_rules | `(tactic| walk_at "room") => `(tactic| exact Room.mono (by assumption) (by decide))
abbrev s__law_long : Stmt := topS 29
abbrev n__law_long : List Str := ["_law_cell", "_law_seed", "_law_many", "_law_one", "_law_two", "_law_tree", "_law_k", "_law_names"]
abbrev p__law_long : List Str := ["_law_cell", "_law_seed"]
theorem sc__law_long : FnScope n__law_long p__law_long (defScope s__law_long) := ⟨rfl, rfl, rfl, by decide +kernel, rfl, by decide +kernel, by decide +kernel⟩
abbrev s__law_chain : Stmt := topS 30
abbrev n__law_chain : List Str := ["_law_statement", "_law_many", "_law_cell", "_law_seed", "_law_k", "_law_word", "_law_beside"]
abbrev p__law_chain : List Str := ["_law_statement", "_law_many", "_law_cell", "_law_seed"]
theorem sc__law_chain : FnScope n__law_chain p__law_chain (defScope s__law_chain) := ⟨rfl, rfl, rfl, by decide +kernel, rfl, by decide +kernel, by decide +kernel⟩
/-! ### the chain -/
def wrd (cell : Int) (k : Nat) : Op := opAt (cell + (k : Int) * (k : Int))
def bes (cell seed : Int) (k : Nat) : S := match (cell / 4 + (k : Int)) % 3 with
  | 0 => .fls
  | 1 => .nm (nameBy seed ((k : Int) % 3))
  | _ => .nm (nameBy seed 0)
theorem bes_item (cell seed : Int) (k : Nat) : ([enc .fls, enc (.nm (nameBy seed ((k : Int) % 3))), enc (.nm (nameBy seed 0))] : List PyData).getD ((cell / 4 + (k : Int)) % 3).toNat .none = enc (bes cell seed k) := by
  have h0 : 0 ≤ (cell / 4 + (k : Int)) % 3 := Int.emod_nonneg _ (by decide)
  have h1 : (cell / 4 + (k : Int)) % 3 < 3 := Int.emod_lt_of_pos _ (by decide)
  unfold bes
  generalize (cell / 4 + (k : Int)) % 3 = i at h0 h1
  have h : i = 0 ∨ i = 1 ∨ i = 2 := by omega
  rcases h with rfl | rfl | rfl <;> rfl
theorem bes_ok (cell seed : Int) (k : Nat) : Ok (bes cell seed k) ∧ dep (bes cell seed k) = 1 ∧ sz (bes cell seed k) = 1 := by
  unfold bes
  split
  · exact ⟨trivial, rfl, rfl⟩
  · exact ⟨nameBy_ok _ _, rfl, rfl⟩
  · exact ⟨nameBy_ok _ _, rfl, rfl⟩
def sideC (cell : Int) (k : Nat) : Int := (cell / 12 + (k : Int) / 2) % 2
def chS (cell seed : Int) (s : S) : Nat → S
  | 0 => s
  | k + 1 => if sideC cell k = 0 then .bin (wrd cell k) (chS cell seed s k) (bes cell seed k) else .bin (wrd cell k) (bes cell seed k) (chS cell seed s k)
theorem chS_succ (cell seed : Int) (s : S) (k : Nat) : chS cell seed s (k + 1) = if sideC cell k = 0 then .bin (wrd cell k) (chS cell seed s k) (bes cell seed k) else .bin (wrd cell k) (bes cell seed k) (chS cell seed s k) := rfl
theorem chS_ok (cell seed : Int) {s : S} (h : Ok s) : ∀ k, Ok (chS cell seed s k) ∧ dep (chS cell seed s k) ≤ dep s + k ∧ sz (chS cell seed s k) ≤ sz s + 2 * k
  | 0 => ⟨h, Nat.le_refl _, Nat.le_refl _⟩
  | k + 1 => by
    obtain ⟨a1, a2, a3⟩ := chS_ok cell seed h k
    obtain ⟨b1, b2, b3⟩ := bes_ok cell seed k
    have hp := dep_pos (chS cell seed s k)
    unfold chS
    split
    · refine ⟨⟨a1, b1⟩, ?_, ?_⟩
      · show max _ _ + 1 ≤ _
        omega
      · show _ + _ + 1 ≤ _
        omega
    · refine ⟨⟨b1, a1⟩, ?_, ?_⟩
      · show max _ _ + 1 ≤ _
        omega
      · show _ + _ + 1 ≤ _
        omega
section
variable {P : Program} {w : World} {K : PySem.W.Frag} {mg : Str → Option Value} {base : Heap} {f C : Addr} {fd : FuncData} {tb : List Addr} {k : Nat}
def rChain (ds : List PyData) (d : PyData) : Prop := ∃ (s : S) (many : Nat) (cell seed : Int), ds = [enc s, .int (many : Int), .int cell, .int seed] ∧ many ≤ 1000 ∧ d = enc (chS cell seed s many)
theorem ok_chain {kn : Nat} (F : FnP K "_law_chain" s__law_chain f fd) (GN : FnG P w K mg base tb "_law_name_by" ["_law_seed", "_law_k"] kn rName) (mr : mg "range" = none) (h1 : kn ≤ k) : FnOk P w K mg base CX0 (k + 1) f fd ["_law_statement", "_law_many", "_law_cell", "_law_seed"] (spD K tb 4 rChain) := by
  refine fn_ok F sc__law_chain (by decide) ?_
  rintro ds d ⟨s, many, cell, seed, rfl, hm, rfl⟩ A outer s' H E hr
  have nd := sc__law_chain.nd
  refine bd_cons (es := [.dat (enc (chS cell seed s many)), .dat (.int (many : Int)), .dat (.int cell), .dat (.int seed), .no, .no, .no]) ?_ (bd_left (sd_ret (ed_var 0)))
  refine (sd_for (items := rngD 0 many) 4 (fun i => [.dat (enc (chS cell seed s i)), .dat (.int (many : Int)), .dat (.int cell), .dat (.int seed), .no, .no, .no]) PassesOwn.never rfl (id_rngN mr (ed_var 1) rfl (by omega)) nd rfl (fun i d e => ?_)).is (by rw [rng0_len])
  obtain ⟨hi, rfl⟩ := rng0_at e
  have e0 : 0 ≤ (cell + (i : Int) * (i : Int)) % 4 := Int.emod_nonneg _ (by decide)
  have e1 : (cell + (i : Int) * (i : Int)) % 4 < 4 := Int.emod_lt_of_pos _ (by decide)
  have g0 : 0 ≤ (cell / 4 + (i : Int)) % 3 := Int.emod_nonneg _ (by decide)
  have g1 : (cell / 4 + (i : Int)) % 3 < 3 := Int.emod_lt_of_pos _ (by decide)
  have z0 : 0 ≤ sideC cell i := Int.emod_nonneg _ (by decide)
  have z1 : sideC cell i < 2 := Int.emod_lt_of_pos _ (by decide)
  refine bd_wk (es := [.dat (enc (chS cell seed s (i + 1))), .dat (.int (many : Int)), .dat (.int cell), .dat (.int seed), .dat (.int (i : Int)), .dat (.str (wrd cell i).word), .dat (enc (bes cell seed i))]) ?_ (.same _ (.same _ (.same _ (.same _ (.no _ (.no _ (.no _ .nil)))))))
  refine bd_cons ((sd_set 5 (ed_item (ed_lst (ad_cons ed_str (ad_cons ed_str (ad_cons ed_str (ad_cons ed_str ad_nil)))) (by decide)) (ed_bin (ed_bin (ed_var 2) (ed_bin (ed_var 4) (ed_var 4) (bin_mul (by omega))) (by walk_at "bin")) ed_int (by walk_at "bin")) (item_lo e0 e1)) nd).is (by rw [op_item] <;> rfl)) ?_
  refine bd_cons ((sd_set 6 (ed_item (ed_lst (ad_cons ((ed_tup (ad_cons ed_str ad_nil) (by decide)).is (g := enc .fls) rfl) (ad_cons ((ed_tup (ad_cons ed_str (ad_cons (ed_call GN (hr.mono h1) (ad_cons (ed_var 3) (ad_cons (ed_bin (ed_var 4) ed_int (by walk_at "bin")) ad_nil)) ⟨seed, (i : Int) % 3, rfl, by omega, by omega, rfl⟩) ad_nil)) (by simp)).is (g := enc (.nm (nameBy seed ((i : Int) % 3)))) rfl)
    (ad_cons ((ed_tup (ad_cons ed_str (ad_cons (ed_call GN (hr.mono h1) (ad_cons (ed_var 3) (ad_cons ed_int ad_nil)) ⟨seed, 0, rfl, by decide, by decide, rfl⟩) ad_nil)) (by simp)).is (g := enc (.nm (nameBy seed 0))) rfl) ad_nil))) (by simp)) (ed_bin (ed_bin (ed_bin (ed_var 2) ed_int (by walk_at "bin")) (ed_var 4) (by walk_at "bin")) ed_int (by walk_at "bin")) (item_lo g0 g1)) nd).is (by rw [bes_item] <;> rfl)) ?_
  refine bd_cons ((sd_set 0 (ed_item (ed_lst (ad_cons ((ed_tup (ad_cons (ed_var 5) (ad_cons (ed_var 0) (ad_cons (ed_var 6) ad_nil))) (by simp)).is (g := enc (.bin (wrd cell i) (chS cell seed s i) (bes cell seed i))) rfl) (ad_cons ((ed_tup (ad_cons (ed_var 5) (ad_cons (ed_var 6) (ad_cons (ed_var 0) ad_nil))) (by simp)).is (g := enc (.bin (wrd cell i) (bes cell seed i) (chS cell seed s i))) rfl) ad_nil)) (by simp))
    (ed_bin (ed_bin (ed_bin (ed_var 2) ed_int (by walk_at "bin")) (ed_bin (ed_var 4) ed_int (by walk_at "bin")) (by walk_at "bin")) ed_int (by walk_at "bin")) (item_lo z0 z1)) nd).is ?_) bd_nil
  have ez : sideC cell i = 0 ∨ sideC cell i = 1 := by omega
  have e2 : ([enc (.bin (wrd cell i) (chS cell seed s i) (bes cell seed i)), enc (.bin (wrd cell i) (bes cell seed i) (chS cell seed s i))] : List PyData).getD (sideC cell i).toNat .none = enc (chS cell seed s (i + 1)) := by
    rw [chS_succ]
    generalize chS cell seed s i = z
    rcases ez with q | q
    · rw [q, if_pos rfl] <;> rfl
    · rw [q, if_neg (by decide)] <;> rfl
  show Out.nx [.dat (([enc (.bin (wrd cell i) (chS cell seed s i) (bes cell seed i)), enc (.bin (wrd cell i) (bes cell seed i) (chS cell seed s i))] : List PyData).getD (sideC cell i).toNat .none), _, _, _, _, _, _] = _
  rw [e2] <;> rfl
end
/-! ### a tree of many worlds -/
def lMany (c : Int) : Nat := (2 + c % 119).toNat
def lOne (c : Int) : Int := c / 119 % (lMany c : Int)
def lTwo (c : Int) : Int := c / 14161 % (lMany c : Int)
def lNames (c seed : Int) (k : Nat) : List Str := (if lOne c ≤ (k : Int) then [nameBy seed 0] else []) ++ (if lTwo c ≤ (k : Int) then [nameBy seed 1] else [])
def lPar (c : Int) (k : Nat) : Nat := if c / 2000000 % 2 = 0 then k - 1 else 0
def lW (c seed : Int) (k : Nat) : Wo := (some (lPar c k), sortS (lNames c seed k))
def lT (c seed : Int) : Nat → List Wo
  | 0 => [(none, [])]
  | i + 1 => lT c seed i ++ [lW c seed (i + 1)]
theorem lT_len (c seed : Int) : ∀ i, (lT c seed i).length = i + 1
  | 0 => rfl
  | i + 1 => by
    unfold lT
    rw [List.length_append, lT_len c seed i] <;> rfl
theorem lT_at (c seed : Int) : ∀ i j, j ≤ i → (lT c seed i).getD j w0 = if j = 0 then (none, []) else lW c seed j
  | 0, j, h => by
    have : j = 0 := by omega
    subst this
    rfl
  | i + 1, j, h => by
    unfold lT
    by_cases q : j ≤ i
    · rw [getD_snocL (by rw [lT_len]; omega)]
      exact lT_at c seed i j q
    · have : j = i + 1 := by omega
      subst this
      have e := getD_snocR (T := lT c seed i) (v := lW c seed (i + 1))
      rw [lT_len] at e
      rw [e, if_neg (by omega)]
theorem lNames_mem {c seed : Int} {k : Nat} {z : Str} (h : z ∈ lNames c seed k) : z = nameBy seed 0 ∨ z = nameBy seed 1 := by
  unfold lNames at h
  rcases List.mem_append.mp h with h | h
  · split at h
    · exact .inl (List.mem_singleton.mp h)
    · cases h
  · split at h
    · exact .inr (List.mem_singleton.mp h)
    · cases h
theorem lNames_up {c seed : Int} {j k : Nat} (h : j ≤ k) {z : Str} (hz : z ∈ lNames c seed j) : z ∈ lNames c seed k := by
  unfold lNames at *
  rcases List.mem_append.mp hz with q | q
  · refine List.mem_append_left _ ?_
    split at q
    · rw [if_pos (by omega)]
      exact q
    · cases q
  · refine List.mem_append_right _ ?_
    split at q
    · rw [if_pos (by omega)]
      exact q
    · cases q
theorem lNames_nodup (c seed : Int) (k : Nat) : (lNames c seed k).Nodup := by
  have ne : nameBy seed 0 ≠ nameBy seed 1 := fun e => by
    have := names_apart (seed := seed) (i := 0) (j := 1) (by decide) (by decide) e
    cases this
  unfold lNames
  split <;> split
  · exact List.nodup_cons.mpr ⟨by simpa using ne, List.nodup_cons.mpr ⟨by simp, List.nodup_nil⟩⟩
  · exact List.nodup_cons.mpr ⟨by simp, List.nodup_nil⟩
  · exact List.nodup_cons.mpr ⟨by simp, List.nodup_nil⟩
  · exact List.nodup_nil
theorem lNames_len (c seed : Int) (k : Nat) : (lNames c seed k).length ≤ 2 := by
  unfold lNames
  split <;> split <;> simp
theorem lT_right (c seed : Int) : ∀ i, RightT (lT c seed i)
  | 0 => ⟨Nat.one_pos, fun v hv => by
      rw [List.mem_singleton.mp hv]
      exact ⟨(fun _ h => nomatch h), List.nodup_nil, .nil⟩, rfl, fun i h0 hi => by
      have hi : i < 1 := hi
      omega⟩
  | i + 1 => by
    have ih := lT_right c seed i
    have hp : lPar c (i + 1) ≤ i := by
      unfold lPar
      split <;> omega
    refine ih.snoc (by rw [lT_len]; omega) ⟨fun z hz => ?_, (sortS_perm _).nodup_iff.mpr (lNames_nodup _ _ _), sortS_rises _⟩ fun z hz => ?_
    · rcases lNames_mem (sortS_mem.mp hz) with rfl | rfl <;> exact nmOk_isNm (nameBy_ok _ _)
    · rw [lT_at c seed i _ hp] at hz
      split at hz
      · cases hz
      · exact sortS_mem.mpr (lNames_up (by omega) (sortS_mem.mp hz))
section
variable {P : Program} {w : World} {K : PySem.W.Frag} {mg : Str → Option Value} {base : Heap} {f C : Addr} {fd : FuncData} {tb : List Addr} {k : Nat}
def rLong (ds : List PyData) (d : PyData) : Prop := ∃ (c seed : Int), ds = [.int c, .int seed] ∧ d = encT (lT c seed (lMany c - 1))
theorem ok_long {kn : Nat} (F : FnP K "_law_long" s__law_long f fd) (GN : FnG P w K mg base tb "_law_name_by" ["_law_seed", "_law_k"] kn rName) (mr : mg "range" = none) (ms : mg "sorted" = none) (mt : mg "tuple" = none) (h1 : kn ≤ k) : FnOk P w K mg base CX0 (k + 1) f fd ["_law_cell", "_law_seed"] (spD K tb 2 rLong) := by
  refine fn_ok F sc__law_long (by decide) ?_
  rintro ds d ⟨c, seed, rfl, rfl⟩ A outer s' H E hr
  have nd := sc__law_long.nd
  have hm0 : 0 ≤ c % 119 := Int.emod_nonneg _ (by decide)
  have hm1 : c % 119 < 119 := Int.emod_lt_of_pos _ (by decide)
  have em : (2 + c % 119) = (lMany c : Int) := by unfold lMany; omega
  have lm : 2 ≤ lMany c ∧ lMany c ≤ 120 := by omega
  refine bd_cons ((sd_set 2 (ed_bin ed_int (ed_bin (ed_var 0) ed_int (by walk_at "bin")) (by walk_at "bin")) nd).is (by rw [em])) ?_
  refine bd_cons (sd_set 3 (d := .int (lOne c)) (ed_bin (ed_bin (ed_var 0) ed_int (by walk_at "bin")) (ed_var 2) (bin_mod (by omega))) nd) ?_
  refine bd_cons (sd_set 4 (d := .int (lTwo c)) (ed_bin (ed_bin (ed_var 0) ed_int (by walk_at "bin")) (ed_var 2) (bin_mod (by omega))) nd) ?_
  refine bd_ownL 5 (fs := (lT c seed 0).map encW) (ad_cons (ed_tup (ad_cons ed_non (ad_cons (ed_tup ad_nil (by decide)) ad_nil)) (by simp)) ad_nil) (by show 1 ≤ 1000000; decide) ?_ nd
  refine bd_cons (es := [.dat (.int c), .dat (.int seed), .dat (.int (lMany c : Int)), .dat (.int (lOne c)), .dat (.int (lTwo c)), .own ((lT c seed (lMany c - 1)).map encW), .no, .no]) ?_ ?_
  · refine (sd_for (items := rngD 1 (lMany c - 1)) 6 (fun i => [.dat (.int c), .dat (.int seed), .dat (.int (lMany c : Int)), .dat (.int (lOne c)), .dat (.int (lTwo c)), .own ((lT c seed i).map encW), .no, .no]) PassesOwn.never rfl ?_ nd rfl (fun i d e => ?_)).is ?_
    · exact PId.is (id_rng2 (i := 1) (j := (lMany c : Int)) mr ed_int (ed_var 2) ⟨by omega, by omega, by omega, by omega⟩) (by rw [show ((lMany c : Int) - 1).toNat = lMany c - 1 by omega])
    · obtain ⟨hi, rfl⟩ : i < lMany c - 1 ∧ d = .int ((i + 1 : Nat) : Int) := by
        unfold rngD at e
        rw [List.getElem?_map] at e
        cases q : (List.range (lMany c - 1))[i]? with
        | none => rw [q] at e; cases e
        | some m =>
          rw [q] at e
          obtain ⟨h1, h2⟩ := List.getElem?_eq_some_iff.mp q
          rw [List.getElem_range] at h2
          rw [List.length_range] at h1
          exact ⟨h1, by rw [← Option.some.inj e, ← h2]; show PyData.int _ = PyData.int _; congr 1; omega⟩
      generalize hk : i + 1 = kk
      refine bd_wk (es := [.dat (.int c), .dat (.int seed), .dat (.int (lMany c : Int)), .dat (.int (lOne c)), .dat (.int (lTwo c)), .own ((lT c seed kk).map encW), .dat (.int (kk : Int)), .dat (.list ((lNames c seed kk).map .str))]) ?_ (.same _ (.same _ (.same _ (.same _ (.same _ (.same _ (.no _ (.no _ .nil))))))))
      refine bd_own 7 ?_ nd
      refine bd_cons (es := [.dat (.int c), .dat (.int seed), .dat (.int (lMany c : Int)), .dat (.int (lOne c)), .dat (.int (lTwo c)), .own ((lT c seed i).map encW), .dat (.int (kk : Int)), .own ((if lOne c ≤ (kk : Int) then [nameBy seed 0] else []).map .str)]) (sd_if (k := decide (lOne c ≤ (kk : Int))) (td_cmpD (ed_var 6) (ed_var 3) cmp_ge) (fun h => ?_) fun h => ?_) ?_
      · rw [if_pos (of_decide_eq_true h)]
        exact bd_cons (sd_appendB 7 (xs := []) (ed_call GN (hr.mono h1) (ad_cons (ed_var 1) (ad_cons ed_int ad_nil)) ⟨seed, 0, rfl, by decide, by decide, rfl⟩) (by decide)) bd_nil
      · rw [if_neg (of_decide_eq_false h)]
        exact bd_nil
      refine bd_cons (es := [.dat (.int c), .dat (.int seed), .dat (.int (lMany c : Int)), .dat (.int (lOne c)), .dat (.int (lTwo c)), .own ((lT c seed i).map encW), .dat (.int (kk : Int)), .own ((lNames c seed kk).map .str)]) (sd_if (k := decide (lTwo c ≤ (kk : Int))) (td_cmpD (ed_var 6) (ed_var 4) cmp_ge) (fun h => ?_) fun h => ?_) ?_
      · have e2 : lNames c seed kk = (if lOne c ≤ (kk : Int) then [nameBy seed 0] else []) ++ [nameBy seed 1] := by
          unfold lNames
          rw [if_pos (c := lTwo c ≤ (kk : Int)) (of_decide_eq_true h)]
        rw [e2, List.map_append]
        exact bd_cons (sd_appendB 7 (ed_call GN (hr.mono h1) (ad_cons (ed_var 1) (ad_cons ed_int ad_nil)) ⟨seed, 1, rfl, by decide, by decide, rfl⟩) (by rw [List.length_map]; split <;> simp)) bd_nil
      · have e2 : lNames c seed kk = (if lOne c ≤ (kk : Int) then [nameBy seed 0] else []) := by
          unfold lNames
          rw [if_neg (c := lTwo c ≤ (kk : Int)) (of_decide_eq_false h), List.append_nil]
        rw [e2]
        exact bd_nil
      refine bd_freeze 7 ?_
      have z0 : 0 ≤ c / 2000000 % 2 := Int.emod_nonneg _ (by decide)
      have z1 : c / 2000000 % 2 < 2 := Int.emod_lt_of_pos _ (by decide)
      have nl := lNames_len c seed kk
      refine bd_cons ((sd_appendB 5 (xs := (lT c seed i).map encW) (d := encW (lW c seed kk)) ?_ (by rw [List.length_map, lT_len]; omega)).is ?_) bd_nil
      · refine (ed_tup (ad_cons (ed_item (ed_lst (ad_cons (ed_bin (ed_var 6) ed_int (by walk_at "bin")) (ad_cons ed_int ad_nil)) (by simp)) (ed_bin (ed_bin (ed_var 0) ed_int (by walk_at "bin")) ed_int (by walk_at "bin")) (item_lo z0 z1)) (ad_cons (ed_tuple mt (ed_sortS ms (ed_var 7) (by omega)) (.inl rfl)) ad_nil)) (by simp)).is ?_
        unfold lW lPar encW
        have hz : c / 2000000 % 2 = 0 ∨ c / 2000000 % 2 = 1 := by omega
        rcases hz with q | q
        · rw [q, if_pos rfl]
          show PyData.tuple [.int ((kk : Int) - 1), _] = .tuple [.int ((kk - 1 : Nat) : Int), _]
          rw [show ((kk : Int) - 1) = ((kk - 1 : Nat) : Int) by omega]
        · rw [q, if_neg (by decide)] <;> rfl
      · subst hk
        show Out.nx [_, _, _, _, _, .own ((lT c seed i).map encW ++ [encW (lW c seed (i + 1))]), _, _] = _
        rw [show (lT c seed i).map encW ++ [encW (lW c seed (i + 1))] = (lT c seed (i + 1)).map encW by rw [show lT c seed (i + 1) = lT c seed i ++ [lW c seed (i + 1)] from rfl, List.map_append] <;> rfl] <;> rfl
    · show Out.nx [_, _, _, _, _, .own ((lT c seed (rngD 1 (lMany c - 1)).length).map encW), _, _] = _
      rw [show (rngD 1 (lMany c - 1)).length = lMany c - 1 by unfold rngD; rw [List.length_map, List.length_range]]
  · exact bd_freeze 5 (bd_left (sd_ret (ed_tuple mt (ed_var 5) (.inl rfl))))
end
end K7
namespace K7
open PySem PySem.Spec PyProof.Rows L2 DL LM RM PK PT SHLF TR TA TH PF HV
local macro_rules | `(tactic| walk_at "side") => `(tactic| first | assumption | decide | omega | (simp; done) | (simp; omega))
local macro_rules | `(tactic| walk_at "bin") => `(tactic| first | exact bin_add | exact bin_sub | exact bin_mul (by walk_at "side") | exact bin_fdiv (by walk_at "side") | exact bin_mod (by walk_at "side") | exact bin_catm (by walk_at "side") | exact bin_cat (by walk_at "side") | exact bin_addS (by walk_at "side"))
local macro_rules | `(tactic| walk_at "cmp") => `(tactic| first | exact cmp_lt | exact cmp_le | exact cmp_gt | exact cmp_ge | exact cmp_eqI | exact cmp_neI | exact cmp_eqS | exact cmp_neS | exact cmp_eqB | exact cmp_neB | exact cmp_isN | exact cmp_notN)
local macro_rules | `(tactic| walk_at "slc") => `(tactic| first | exact slc_lm | exact slc_l | exact slc_s (by walk_at "side"))
local macro_rules | `(tactic| walk_at "len") => `(tactic| first | exact len_lm | exact len_l rfl | exact len_t rfl | exact len_s (by walk_at "side"))
local macro_rules | `(tactic| walk_at "room") => `(tactic| exact Room.mono (by assumption) (by decide))
abbrev s_law : Stmt := topS 31
abbrev n_law : List Str := ["_law_script", "_law_seed", "_law_cell", "_law_tree", "_law_cells", "_law_numbers", "_law_k", "_law_statement", "_law_other", "_law_due", "_law_more", "_law_number", "_law_found"]
abbrev p_law : List Str := ["_law_script"]
theorem sc_law : FnScope n_law p_law (defScope s_law) := ⟨rfl, rfl, rfl, by decide +kernel, rfl, by decide +kernel, by decide +kernel⟩
/-! ### the law -/
def seedOf (ns : List Int) : Int := ns.getD 0 0
def cellOf (ns : List Int) : Int := ns.getD 1 0
def treeOf (ns : List Int) : List Wo := if cellOf ns % 8 = 3 then lT (cellOf ns / 8) (seedOf ns) (lMany (cellOf ns / 8) - 1) else treeBy (DL.cutD ns (some 2) (some 10)) (seedOf ns) 8
def cellsOf (ns : List Int) : List Int := if cellOf ns % 8 = 3 then DL.cutD ns (some 11) (some 16) else DL.cutD ns (some 11) (some 21)
def numsOf (ns : List Int) : List Nat := if cellOf ns % 8 = 3 then [0, (cellOf ns / 64 % ((treeOf ns).length : Int)).toNat, (treeOf ns).length - 1] else List.range (treeOf ns).length
def baseOf (ns : List Int) : S := stBy (cellsOf ns) (seedOf ns)
def stOf (ns : List Int) : S := if cellOf ns % 8 = 5 then chS (ns.getD 11 0) (seedOf ns) (baseOf ns) (cellOf ns / 8 % 18).toNat else baseOf ns
def otOf (ns : List Int) : S := stBy (DL.cutD ns (some 12) (some 18)) (seedOf ns)
theorem cut_le (ns : List Int) (i j : Nat) : (DL.cutD ns (some (i : Int)) (some (j : Int))).length ≤ j - i := by
  rw [cut_nat, List.length_take]
  omega
theorem cellsOf_len (ns : List Int) : (cellsOf ns).length ≤ 10 := by
  unfold cellsOf
  split
  · exact Nat.le_trans (cut_le ns 11 16) (by decide)
  · exact Nat.le_trans (cut_le ns 11 21) (by decide)
theorem by_ok {cs : List Int} {seed : Int} (h : cs.length ≤ 10) : Ok (stBy cs seed) ∧ dep (stBy cs seed) ≤ 10 ∧ sz (stBy cs seed) < 20000 := by
  obtain ⟨h1, h2⟩ := stBy_ok cs seed
  have u := stBy_u cs seed
  have z := sz_u (stBy cs seed)
  have p : 2 ^ cs.length ≤ 2 ^ 10 := Nat.pow_le_pow_right (by decide) h
  have : (2 : Nat) ^ 10 = 1024 := by decide
  refine ⟨h1, ?_, ?_⟩ <;> omega
theorem stOf_ok (ns : List Int) : Ok (stOf ns) ∧ dep (stOf ns) ≤ 30 ∧ sz (stOf ns) < 900000 := by
  obtain ⟨h1, h2, h3⟩ := by_ok (seed := seedOf ns) (cellsOf_len ns)
  have h1 : Ok (baseOf ns) := h1
  have h2 : dep (baseOf ns) ≤ 10 := h2
  have h3 : sz (baseOf ns) < 20000 := h3
  unfold stOf
  split
  · obtain ⟨a1, a2, a3⟩ := chS_ok (ns.getD 11 0) (seedOf ns) h1 (cellOf ns / 8 % 18).toNat
    have m0 : 0 ≤ cellOf ns / 8 % 18 := Int.emod_nonneg _ (by decide)
    have m1 : cellOf ns / 8 % 18 < 18 := Int.emod_lt_of_pos _ (by decide)
    refine ⟨a1, ?_, ?_⟩ <;> omega
  · refine ⟨h1, ?_, ?_⟩ <;> omega
theorem otOf_ok (ns : List Int) : Ok (otOf ns) ∧ dep (otOf ns) ≤ 30 ∧ sz (otOf ns) < 900000 := by
  obtain ⟨h1, h2, h3⟩ := by_ok (cs := DL.cutD ns (some 12) (some 18)) (seed := seedOf ns) (Nat.le_trans (cut_le ns 12 18) (by decide))
  refine ⟨h1, ?_, ?_⟩
  · show dep (stBy _ _) ≤ 30
    omega
  · show sz (stBy _ _) < 900000
    omega
theorem treeOf_ok (ns : List Int) : RightT (treeOf ns) ∧ (treeOf ns).length ≤ 200 := by
  unfold treeOf
  split
  · have hm0 : 0 ≤ cellOf ns / 8 % 119 := Int.emod_nonneg _ (by decide)
    have hm1 : cellOf ns / 8 % 119 < 119 := Int.emod_lt_of_pos _ (by decide)
    refine ⟨lT_right _ _ _, ?_⟩
    rw [lT_len]
    unfold lMany
    omega
  · refine ⟨(good_treeBy _ _ _).r, ?_⟩
    rw [treeBy_len]
    omega
theorem numsOf_lt (ns : List Int) : ∀ n ∈ numsOf ns, n < (treeOf ns).length := fun n hn => by
  have hp := (treeOf_ok ns).1.pos
  unfold numsOf at hn
  split at hn
  · have h0 := Int.emod_nonneg (cellOf ns / 64) (show ((treeOf ns).length : Int) ≠ 0 by omega)
    have h1 := Int.emod_lt_of_pos (cellOf ns / 64) (show 0 < ((treeOf ns).length : Int) by omega)
    simp only [List.mem_cons, List.not_mem_nil, or_false] at hn
    omega
  · exact List.mem_range.mp hn
section
variable {P : Program} {w : World} {K : PySem.W.Frag} {mg : Str → Option Value} {base : Heap} {f C : Addr} {fd : FuncData} {tb : List Addr} {k : Nat}
def natsN (l : List Nat) : List PyData := l.map fun (i : Nat) => PyData.int (i : Int)
def rLaw (ds : List PyData) (d : PyData) : Prop := ∃ ns : List Int, ds = [.list (ns.map .int)] ∧ d = .bool true
theorem kit_bool (b : Bool) : kitB (tyD (.bool b)) "bool" = some true := by show kitB "bool" "bool" = some true; decide +kernel
theorem ok_law {kc kt kg ks kh kb kx : Nat} (F : FnP K "law" s_law f fd) (GC : FnG P w K mg base tb "_law_cell_at" ["_law_script", "_law_k"] kc rCell) (GT : FnG P w K mg base tb "_law_tree_by" ["_law_cells", "_law_seed", "_law_many"] kt rTreeBy) (GL : FnG P w K mg base tb "_law_long" ["_law_cell", "_law_seed"] kg rLong) (GS : FnG P w K mg base tb "_law_statement_by" ["_law_cells", "_law_seed"] ks rStBy)
    (GH : FnG P w K mg base tb "_law_chain" ["_law_statement", "_law_many", "_law_cell", "_law_seed"] kh rChain) (GB : FnG P w K mg base tb "_law_table" ["_law_tree", "_law_statement"] kb (rTable 30)) (GX : FnG P w K mg base tb "holds" ["tree", "number", "statement"] kx rHolds)
    (ml : mg "len" = none) (mr : mg "range" = none) (mi : mg "isinstance" = none) (mb : mg "bool" = none) (h1 : kc ≤ k) (h2 : kt ≤ k) (h3 : kg ≤ k) (h4 : ks ≤ k) (h5 : kh ≤ k) (h6 : kb ≤ k) (h7 : kx ≤ k) :
    FnOk P w K mg base CX0 (k + 1) f fd ["_law_script"] (spD K tb 1 rLaw) := by
  refine fn_ok F sc_law (by decide) ?_
  rintro ds d ⟨ns, rfl, rfl⟩ A outer s' H E hr
  have nd := sc_law.nd
  obtain ⟨hR, hTl⟩ := treeOf_ok ns
  obtain ⟨s1, s2, s3⟩ := stOf_ok ns
  obtain ⟨o1, o2, o3⟩ := otOf_ok ns
  have hP := ParT.of hR
  have hpos := hP.pos
  have lm : ∀ T : List Wo, (T.map encW).length = T.length := fun T => List.length_map _
  refine bd_cons (sd_set 1 (d := .int (seedOf ns)) (ed_call GC (hr.mono h1) (ad_cons (ed_var 0) (ad_cons ed_int ad_nil)) ⟨ns, 0, rfl, rfl⟩) nd) ?_
  refine bd_cons (sd_set 2 (d := .int (cellOf ns)) (ed_call GC (hr.mono h1) (ad_cons (ed_var 0) (ad_cons ed_int ad_nil)) ⟨ns, 1, rfl, rfl⟩) nd) ?_
  refine bd_cons (sd_set 3 (d := encT (treeBy (DL.cutD ns (some 2) (some 10)) (seedOf ns) 8)) (ed_call GT (hr.mono h2) (ad_cons (ed_slc (ed_var 0) (od_some ed_int) (od_some ed_int) slc_lm) (ad_cons (ed_var 1) (ad_cons ed_int ad_nil))) ⟨_, _, 8, rfl, Nat.le_trans (cut_le ns 2 10) (by decide), rfl⟩) nd) ?_
  refine bd_cons (sd_set 4 (d := .list ((DL.cutD ns (some 11) (some 21)).map .int)) (ed_slc (ed_var 0) (od_some ed_int) (od_some ed_int) slc_lm) nd) ?_
  have tl0 : (treeBy (DL.cutD ns (some 2) (some 10)) (seedOf ns) 8).length ≤ 200 := by rw [treeBy_len]; omega
  have rng : ∀ n, rngD 0 n = natsN (List.range n) := fun n => by
    unfold rngD natsN
    exact List.map_congr_left fun i _ => by rw [Int.zero_add]
  refine bd_cons (sd_setLcY 5 6 (List.range (treeBy (DL.cutD ns (some 2) (some 10)) (seedOf ns) 8).length) (fun (j : Nat) => PyData.int (j : Int)) (fun (j : Nat) => PyData.int (j : Int)) rfl nd (by exact PId.is (id_rngN mr (ed_len ml (ed_var 3) (len_t (lm _))) rfl (by omega)) (rng _)) (by rw [List.length_range]; omega)
    (blkOk_by (N := n_law) (sc := defScope s_law) (by decide +kernel)) (fun _ _ _ _ _ => pg_name nd rfl (Or.inl rfl)) (fun y hy s2 H2 C2 cl fp => ed_var 6)) ?_
  refine bd_cons (es := [.dat (.list (ns.map .int)), .dat (.int (seedOf ns)), .dat (.int (cellOf ns)), .dat (encT (treeOf ns)), .dat (.list ((cellsOf ns).map .int)), .dat (.list (natsN (numsOf ns))), .no, .no, .no, .no, .no, .no, .no]) ?_ ?_
  · refine sd_if (td_cmpD (ed_bin (ed_var 2) ed_int (by walk_at "bin")) ed_int (by walk_at "cmp")) (fun h => ?_) fun h => ?_
    · have h := of_decide_eq_true h
      have eT : treeOf ns = lT (cellOf ns / 8) (seedOf ns) (lMany (cellOf ns / 8) - 1) := if_pos h
      have eC : cellsOf ns = DL.cutD ns (some 11) (some 16) := if_pos h
      have eN : numsOf ns = [0, (cellOf ns / 64 % ((treeOf ns).length : Int)).toNat, (treeOf ns).length - 1] := if_pos h
      have q0 := Int.emod_nonneg (cellOf ns / 64) (show ((treeOf ns).length : Int) ≠ 0 by omega)
      refine bd_cons ((sd_set 3 (d := encT (treeOf ns)) (ed_call GL (hr.mono h3) (ad_cons (ed_bin (ed_var 2) ed_int (by walk_at "bin")) (ad_cons (ed_var 1) ad_nil)) ⟨_, _, rfl, by rw [eT]⟩) nd)) ?_
      refine bd_cons (sd_set 4 (d := .list ((cellsOf ns).map .int)) ((ed_slc (ed_var 0) (od_some ed_int) (od_some ed_int) slc_lm).is (by rw [eC])) nd) ?_
      refine bd_cons ((sd_set 5 (ed_lst (ad_cons ed_int (ad_cons (ed_bin (ed_bin (ed_var 2) ed_int (by walk_at "bin")) (ed_len ml (ed_var 3) (len_t (lm (treeOf ns)))) (bin_mod (by omega))) (ad_cons (ed_bin (ed_len ml (ed_var 3) (len_t (lm (treeOf ns)))) ed_int (by walk_at "bin")) ad_nil))) (by simp)) nd).is ?_) bd_nil
      rw [eN]
      show Out.nx [_, _, _, _, _, .dat (.list [.int 0, .int (cellOf ns / 64 % ((treeOf ns).length : Int)), .int (((treeOf ns).length : Int) - 1)]), _, _, _, _, _, _, _] = Out.nx [_, _, _, _, _, .dat (.list [.int ((0 : Nat) : Int), .int (((cellOf ns / 64 % ((treeOf ns).length : Int)).toNat : Nat) : Int), .int (((treeOf ns).length - 1 : Nat) : Int)]), _, _, _, _, _, _, _]
      rw [Int.toNat_of_nonneg q0, show (((treeOf ns).length - 1 : Nat) : Int) = ((treeOf ns).length : Int) - 1 by omega] <;> rfl
    · have h := of_decide_eq_false h
      have eT : treeOf ns = treeBy (DL.cutD ns (some 2) (some 10)) (seedOf ns) 8 := if_neg h
      have eC : cellsOf ns = DL.cutD ns (some 11) (some 21) := if_neg h
      have eN : numsOf ns = List.range (treeOf ns).length := if_neg h
      rw [eN, eT, eC]
      exact bd_nil.is rfl
  have hN := numsOf_lt ns
  have hNl : (numsOf ns).length ≤ 1000 := by
    unfold numsOf
    split
    · simp
    · rw [List.length_range]
      omega
  generalize treeOf ns = T at hR hTl hP hpos hN
  generalize numsOf ns = nums at hN hNl
  have hc0 := cellsOf_len ns
  refine bd_cons (sd_set 7 (d := enc (baseOf ns)) (ed_call GS (hr.mono h4) (ad_cons (ed_var 4) (ad_cons (ed_var 1) ad_nil)) ⟨_, _, rfl, Nat.le_trans hc0 (by decide), rfl⟩) nd) ?_
  refine bd_cons (es := [.dat (.list (ns.map .int)), .dat (.int (seedOf ns)), .dat (.int (cellOf ns)), .dat (encT T), .dat (.list ((cellsOf ns).map .int)), .dat (.list (natsN nums)), .no, .dat (enc (stOf ns)), .no, .no, .no, .no, .no]) ?_ ?_
  · have m0 : 0 ≤ cellOf ns / 8 % 18 := Int.emod_nonneg _ (by decide)
    have m1 : cellOf ns / 8 % 18 < 18 := Int.emod_lt_of_pos _ (by decide)
    refine sd_if (td_cmpD (ed_bin (ed_var 2) ed_int (by walk_at "bin")) ed_int (by walk_at "cmp")) (fun h => ?_) fun h => ?_
    · have e : stOf ns = chS (ns.getD 11 0) (seedOf ns) (baseOf ns) (cellOf ns / 8 % 18).toNat := if_pos (of_decide_eq_true h)
      rw [e]
      have e18 : ((cellOf ns / 8 % 18).toNat : Int) = cellOf ns / 8 % 18 := by omega
      exact bd_cons (sd_set 7 (ed_call GH (hr.mono h5) (ad_cons (ed_var 7) (ad_cons ((ed_bin (ed_bin (ed_var 2) ed_int (by walk_at "bin")) ed_int (by walk_at "bin")).is (g := .int ((cellOf ns / 8 % 18).toNat : Int)) (by rw [e18])) (ad_cons (ed_call GC (hr.mono h1) (ad_cons (ed_var 0) (ad_cons ed_int ad_nil)) ⟨ns, 11, rfl, rfl⟩) (ad_cons (ed_var 1) ad_nil)))) ⟨_, _, _, _, rfl, by omega, rfl⟩) nd) bd_nil
    · have e : stOf ns = baseOf ns := if_neg (of_decide_eq_false h)
      rw [e]
      exact bd_nil.is rfl
  generalize stOf ns = s at s1 s2 s3
  refine bd_cons (sd_set 8 (d := enc (otOf ns)) (ed_call GS (hr.mono h4) (ad_cons (ed_slc (ed_var 0) (od_some ed_int) (od_some ed_int) slc_lm) (ad_cons (ed_var 1) ad_nil)) ⟨_, _, rfl, Nat.le_trans (cut_le ns 12 18) (by decide), rfl⟩) nd) ?_
  generalize otOf ns = t at o1 o2 o3
  refine bd_cons (sd_set 9 (d := .list (colV T.length (hB T s))) (ed_call GB (hr.mono h6) (ad_cons (ed_var 3) (ad_cons (ed_var 7) ad_nil)) ⟨T, s, rfl, hP, hR.root, by omega, s2, rfl⟩) nd) ?_
  refine bd_cons (sd_set 10 (d := .list (colV T.length (hB T t))) (ed_call GB (hr.mono h6) (ad_cons (ed_var 3) (ad_cons (ed_var 8) ad_nil)) ⟨T, t, rfl, hP, hR.root, by omega, o2, rfl⟩) nd) ?_
  have it : ∀ (i : Nat) (d : PyData), (natsN nums)[i]? = some d → ∃ n : Nat, d = .int (n : Int) ∧ n < T.length := fun i d e => by
    unfold natsN at e
    rw [List.getElem?_map] at e
    cases q : nums[i]? with
    | none => rw [q] at e; cases e
    | some n =>
      rw [q] at e
      exact ⟨n, (Option.some.inj e).symm, hN n (List.mem_of_getElem? q)⟩
  refine bd_cons (es := [.dat (.list (ns.map .int)), .dat (.int (seedOf ns)), .dat (.int (cellOf ns)), .dat (encT T), .dat (.list ((cellsOf ns).map .int)), .dat (.list (natsN nums)), .no, .dat (enc s), .dat (enc t), .dat (.list (colV T.length (hB T s))), .dat (.list (colV T.length (hB T t))), .no, .no]) ?_ ?_
  · refine (sd_for (items := natsN nums) 11 (fun _ => [.dat (.list (ns.map .int)), .dat (.int (seedOf ns)), .dat (.int (cellOf ns)), .dat (encT T), .dat (.list ((cellsOf ns).map .int)), .dat (.list (natsN nums)), .no, .dat (enc s), .dat (enc t), .dat (.list (colV T.length (hB T s))), .dat (.list (colV T.length (hB T t))), .no, .no]) PassesOwn.never rfl (id_list (ed_var 5)) nd rfl (fun i d e => ?_))
    obtain ⟨n, rfl, hn⟩ := it i d e
    refine bd_wk (es := [.dat (.list (ns.map .int)), .dat (.int (seedOf ns)), .dat (.int (cellOf ns)), .dat (encT T), .dat (.list ((cellsOf ns).map .int)), .dat (.list (natsN nums)), .no, .dat (enc s), .dat (enc t), .dat (.list (colV T.length (hB T s))), .dat (.list (colV T.length (hB T t))), .dat (.int (n : Int)), .dat (.bool (hB T s n))]) ?_ (.same _ (.same _ (.same _ (.same _ (.same _ (.same _ (.same _ (.same _ (.same _ (.same _ (.same _ (.no _ (.no _ .nil)))))))))))))
    refine bd_cons (sd_set 12 (ed_call GX (hr.mono h7) (ad_cons (ed_var 3) (ad_cons (ed_var 11) (ad_cons (ed_var 7) ad_nil))) ⟨T, n, s, rfl, hP, by omega, hn, s1, s2, s3, rfl⟩) nd) ?_
    refine bd_cons (sd_if (k := false) (PWd.pt (wd_orf (td_not (k := true) (td_val (ed_isi (T := "bool") (d := .bool (hB T s n)) (k := true) (kit_bool _) mi mb (ed_var 12)))) (wd_or1 ((td_cmpD (ed_var 12) (ed_item (ed_var 9) (ed_var 11) (item_l (atI_nat (colV_at hn)))) cmp_neB).is (by rw [decide_eq_true rfl] <;> rfl))))) (fun h => nomatch h) fun _ => bd_nil) ?_
    exact bd_cons (sd_if (k := false) ((td_cmpD (ed_call GX (hr.mono h7) (ad_cons (ed_var 3) (ad_cons (ed_var 11) (ad_cons (ed_var 8) ad_nil))) ⟨T, n, t, rfl, hP, by omega, hn, o1, o2, o3, rfl⟩) (ed_item (ed_var 10) (ed_var 11) (item_l (atI_nat (colV_at hn)))) cmp_neB).is (by rw [decide_eq_true rfl] <;> rfl)) (fun h => nomatch h) fun _ => bd_nil) bd_nil
  refine bd_cons (es := [.dat (.list (ns.map .int)), .dat (.int (seedOf ns)), .dat (.int (cellOf ns)), .dat (encT T), .dat (.list ((cellsOf ns).map .int)), .dat (.list (natsN nums)), .no, .dat (enc s), .dat (enc t), .dat (.list (colV T.length (hB T s))), .dat (.list (colV T.length (hB T t))), .no, .no]) ?_ (bd_left (sd_ret ed_bl))
  refine (sd_for (items := natsN nums) 11 (fun _ => [.dat (.list (ns.map .int)), .dat (.int (seedOf ns)), .dat (.int (cellOf ns)), .dat (encT T), .dat (.list ((cellsOf ns).map .int)), .dat (.list (natsN nums)), .no, .dat (enc s), .dat (enc t), .dat (.list (colV T.length (hB T s))), .dat (.list (colV T.length (hB T t))), .no, .no]) PassesOwn.never rfl (id_list (ed_var 5)) nd rfl (fun i d e => ?_))
  obtain ⟨n, rfl, hn⟩ := it i d e
  refine bd_wk (es := [.dat (.list (ns.map .int)), .dat (.int (seedOf ns)), .dat (.int (cellOf ns)), .dat (encT T), .dat (.list ((cellsOf ns).map .int)), .dat (.list (natsN nums)), .no, .dat (enc s), .dat (enc t), .dat (.list (colV T.length (hB T s))), .dat (.list (colV T.length (hB T t))), .dat (.int (n : Int)), .no]) ?_ (.same _ (.same _ (.same _ (.same _ (.same _ (.same _ (.same _ (.same _ (.same _ (.same _ (.same _ (.no _ (.no _ .nil)))))))))))))
  refine bd_cons (sd_if (k := false) ((td_cmpD (ed_call GX (hr.mono h7) (ad_cons (ed_var 3) (ad_cons (ed_var 11) (ad_cons (ed_var 7) ad_nil))) ⟨T, n, s, rfl, hP, by omega, hn, s1, s2, s3, rfl⟩) (ed_item (ed_var 9) (ed_var 11) (item_l (atI_nat (colV_at hn)))) cmp_neB).is (by rw [decide_eq_true rfl] <;> rfl)) (fun h => nomatch h) fun _ => bd_nil) ?_
  by_cases h0 : n = 0
  · subst h0
    exact bd_cons (sd_if (k := false) (PWd.pt (wd_andf (td_cmpD (ed_var 11) ed_int (cmp_gt.is rfl)))) (fun h => nomatch h) fun _ => bd_nil) bd_nil
  · obtain ⟨p, hp, ep, hs⟩ := hR.par n (by omega) hn
    have up := hB_up hR hn hp ep hs s
    have wt : atI (T.map encW) (n : Int) = some (encW (T.getD n w0)) := by
      refine atI_nat ?_
      rw [List.getElem?_map, List.getD_eq_getElem?_getD, List.getElem?_eq_getElem hn] <;> rfl
    refine bd_cons (sd_if (k := false) (PTd.is (PWd.pt (wd_and2 (k := true) (td_cmpD (ed_var 11) ed_int (cmp_gt.is (decide_eq_true (by omega)))) fun _ => wd_and2 (td_val (ed_item (ed_var 9) ((ed_item (d := encW (T.getD n w0)) (f := parE (T.getD n w0).1) (ed_item (d := .tuple (T.map encW)) (ed_var 3) (ed_var 11) (item_t wt)) ed_int (item_t (atI_nat (j := 0) rfl))).is (g := .int (p : Int)) (by rw [ep] <;> rfl)) (item_l (atI_nat (colV_at (show p < T.length by omega)))))) fun _ => wd_and1 (td_not (td_val (ed_item (ed_var 9) (ed_var 11) (item_l (atI_nat (colV_at hn)))))))) ?_) (fun h => nomatch h) fun _ => bd_nil) bd_nil
    revert up
    cases hB T s p <;> cases hB T s n <;> simp
end
end K7
namespace K7
open PySem PySem.Spec PyProof.Rows L2 DL LM RM PK PT SHLF TR TA TH PF HV
section
variable {P : Program} {w : World} {K : PySem.W.Frag} {mg : Str → Option Value} {base h : Heap} {tb : List Addr}
theorem b1 {x p1 : Str} {st : Stmt} {f : Addr} {fd : FuncData} (F : FnP K x st f fd) (h : ∀ (kV doc pm : Value) (an : Option Addr) (cdv ct : Value) (u : Value), bindArgs (PySem.W.fnOf x x (defArgs st) (defBody st) (defScope st) .none kV doc pm an cdv ct) ⟨[u], []⟩ = pure ([p1].zip [u])) : Binds K fd [p1] [] :=
  F.bindsN fun a b c d e g us hl => match us, hl with | [u], _ => h a b c d e g u
theorem b2 {x p1 p2 : Str} {st : Stmt} {f : Addr} {fd : FuncData} (F : FnP K x st f fd) (h : ∀ (kV doc pm : Value) (an : Option Addr) (cdv ct : Value) (u v : Value), bindArgs (PySem.W.fnOf x x (defArgs st) (defBody st) (defScope st) .none kV doc pm an cdv ct) ⟨[u, v], []⟩ = pure ([p1, p2].zip [u, v])) : Binds K fd [p1, p2] [] :=
  F.bindsN fun a b c d e g us hl => match us, hl with | [u, v], _ => h a b c d e g u v
theorem b3 {x p1 p2 p3 : Str} {st : Stmt} {f : Addr} {fd : FuncData} (F : FnP K x st f fd) (h : ∀ (kV doc pm : Value) (an : Option Addr) (cdv ct : Value) (u v z : Value), bindArgs (PySem.W.fnOf x x (defArgs st) (defBody st) (defScope st) .none kV doc pm an cdv ct) ⟨[u, v, z], []⟩ = pure ([p1, p2, p3].zip [u, v, z])) : Binds K fd [p1, p2, p3] [] :=
  F.bindsN fun a b c d e g us hl => match us, hl with | [u, v, z], _ => h a b c d e g u v z
theorem b4 {x p1 p2 p3 p4 : Str} {st : Stmt} {f : Addr} {fd : FuncData} (F : FnP K x st f fd) (h : ∀ (kV doc pm : Value) (an : Option Addr) (cdv ct : Value) (u v z y : Value), bindArgs (PySem.W.fnOf x x (defArgs st) (defBody st) (defScope st) .none kV doc pm an cdv ct) ⟨[u, v, z, y], []⟩ = pure ([p1, p2, p3, p4].zip [u, v, z, y])) : Binds K fd [p1, p2, p3, p4] [] :=
  F.bindsN fun a b c d e g us hl => match us, hl with | [u, v, z, y], _ => h a b c d e g u v z y
theorem b5 {x p1 p2 p3 p4 p5 : Str} {st : Stmt} {f : Addr} {fd : FuncData} (F : FnP K x st f fd) (h : ∀ (kV doc pm : Value) (an : Option Addr) (cdv ct : Value) (u v z y t : Value), bindArgs (PySem.W.fnOf x x (defArgs st) (defBody st) (defScope st) .none kV doc pm an cdv ct) ⟨[u, v, z, y, t], []⟩ = pure ([p1, p2, p3, p4, p5].zip [u, v, z, y, t])) : Binds K fd [p1, p2, p3, p4, p5] [] :=
  F.bindsN fun a b c d e g us hl => match us, hl with | [u, v, z, y, t], _ => h a b c d e g u v z y t
/-- a def's code object -/
theorem code_at {p : Str × Option Str} {x q : Str} {ps : Arguments} {b : List Stmt} {sc : Scope} {dvs : List V} {kws : List (Str × V)} {fd : FuncData} (F : FunD K x q ps b sc dvs kws (He.fAd K p) fd) : fd.code = .ref (He.cT K p).1 := by
  obtain ⟨oc, od, dV, kV, doc, pm, an, cdv, ct, osl, rfl, lk, hcd, _, _⟩ := F.ex
  obtain ⟨c, e⟩ := He.codeIn_ref hcd
  have e2 : (PySem.W.fnOf x q ps b sc dV kV doc pm an cdv ct).code = .ref c := e
  have e3 := He.codeOf_eq lk e2
  show (PySem.W.fnOf x q ps b sc dV kV doc pm an cdv ct).code = .ref (He.codeOf K p)
  rw [e2, e3]
def tbs (K : PySem.W.Frag) : List Addr := tf.map fun p => (He.cT K p).2
theorem tb_in {p : He.Defn} (h : p ∈ tf) : (He.cT K p).2 ∈ tbs K := List.mem_map.mpr ⟨p, h, rfl⟩


theorem facts {fl : Addr} (X : K.In h) (G : h.Ns mainGlobals mg) (hfl : mg ("law" : Str) = some (.ref fl)) (c : He.SaysX fa fn ts tf ex w h K) :
    ∃ fd : FuncData, (∀ (s : Shared) (v : Value), BindsTo s fd ⟨[v], []⟩ [("_law_script", v)]) ∧ ∀ base : Heap, K.In base → base.Ns mainGlobals mg → (∀ p ∈ tf, LamX.TabB base mg (He.cT K p).1 (He.cT K p).2) → FnOk P w K mg base CX0 42 fl fd ["_law_script"] (spD K (tbs K) 1 rLaw) := by
  have d := c.t.d
  obtain ⟨d_is_name, F_is_name⟩ := d.def_ 0 (d := dD "is_name" 6) rfl
  obtain ⟨d_numbered, F_numbered⟩ := d.def_ 1 (d := dD "numbered" 7) rfl
  obtain ⟨d_beginning, F_beginning⟩ := d.def_ 2 (d := dD "beginning" 9) rfl
  obtain ⟨d_is_formed, F_is_formed⟩ := d.def_ 3 (d := dD "is_formed" 10) rfl
  obtain ⟨d_halves, F_halves⟩ := d.def_ 4 (d := dD "halves" 11) rfl
  obtain ⟨d_shelved, F_shelved⟩ := d.def_ 5 (d := dD "shelved" 12) rfl
  obtain ⟨d_shelve, F_shelve⟩ := d.def_ 6 (d := dD "shelve" 13) rfl
  obtain ⟨d_with_numbers, F_with_numbers⟩ := d.def_ 7 (d := dD "with_numbers" 14) rfl
  obtain ⟨d_is_number_below, F_is_number_below⟩ := d.def_ 8 (d := dD "is_number_below" 16) rfl
  obtain ⟨d_holds, F_holds⟩ := d.def_ 9 (d := dD "holds" 17) rfl
  obtain ⟨d_refuse_missing, F_refuse_missing⟩ := d.def_ 10 (d := dD "refuse_missing" 18) rfl
  obtain ⟨d_truths_of, F_truths_of⟩ := d.def_ 11 (d := dD "truths_of" 19) rfl
  obtain ⟨d_truths_of_then, F_truths_of_then⟩ := d.def_ 12 (d := dD "truths_of_then" 20) rfl
  obtain ⟨d__law_cell_at, F__law_cell_at⟩ := d.def_ 13 (d := dD "_law_cell_at" 22) rfl
  obtain ⟨d__law_name_by, F__law_name_by⟩ := d.def_ 14 (d := dD "_law_name_by" 23) rfl
  obtain ⟨d__law_joined, F__law_joined⟩ := d.def_ 15 (d := dD "_law_joined" 24) rfl
  obtain ⟨d__law_step, F__law_step⟩ := d.def_ 16 (d := dD "_law_step" 25) rfl
  obtain ⟨d__law_statement_by, F__law_statement_by⟩ := d.def_ 17 (d := dD "_law_statement_by" 26) rfl
  obtain ⟨d__law_tree_by, F__law_tree_by⟩ := d.def_ 18 (d := dD "_law_tree_by" 27) rfl
  obtain ⟨d__law_table, F__law_table⟩ := d.def_ 19 (d := dD "_law_table" 28) rfl
  obtain ⟨d__law_long, F__law_long⟩ := d.def_ 20 (d := dD "_law_long" 29) rfl
  obtain ⟨d__law_chain, F__law_chain⟩ := d.def_ 21 (d := dD "_law_chain" 30) rfl
  obtain ⟨d_law, F_law⟩ := d.def_ 22 (d := dD "law" 31) rfl
  obtain ⟨d_Shelf___init__, F_Shelf___init__⟩ := d.def_ 23 (d := dM "Shelf" "__init__" "Shelf.__init__" 8 0) rfl
  obtain ⟨d_Shelf_number, F_Shelf_number⟩ := d.def_ 24 (d := dM "Shelf" "number" "Shelf.number" 8 1) rfl
  obtain ⟨d_Shelf_takes, F_Shelf_takes⟩ := d.def_ 25 (d := dM "Shelf" "takes" "Shelf.takes" 8 2) rfl
  have e := hfl.symm.trans (He.glo_ok X G (d.fact 22 (f := .glo "law") rfl))
  cases e
  have g_is_name := He.glo_ok X G (d.fact 0 (f := .glo "is_name") rfl)
  have g_numbered := He.glo_ok X G (d.fact 1 (f := .glo "numbered") rfl)
  have g_beginning := He.glo_ok X G (d.fact 2 (f := .glo "beginning") rfl)
  have g_is_formed := He.glo_ok X G (d.fact 3 (f := .glo "is_formed") rfl)
  have g_halves := He.glo_ok X G (d.fact 4 (f := .glo "halves") rfl)
  have g_shelved := He.glo_ok X G (d.fact 5 (f := .glo "shelved") rfl)
  have g_shelve := He.glo_ok X G (d.fact 6 (f := .glo "shelve") rfl)
  have g_with_numbers := He.glo_ok X G (d.fact 7 (f := .glo "with_numbers") rfl)
  have g_is_number_below := He.glo_ok X G (d.fact 8 (f := .glo "is_number_below") rfl)
  have g_holds := He.glo_ok X G (d.fact 9 (f := .glo "holds") rfl)
  have g_refuse_missing := He.glo_ok X G (d.fact 10 (f := .glo "refuse_missing") rfl)
  have g_truths_of := He.glo_ok X G (d.fact 11 (f := .glo "truths_of") rfl)
  have g_truths_of_then := He.glo_ok X G (d.fact 12 (f := .glo "truths_of_then") rfl)
  have g__law_cell_at := He.glo_ok X G (d.fact 13 (f := .glo "_law_cell_at") rfl)
  have g__law_name_by := He.glo_ok X G (d.fact 14 (f := .glo "_law_name_by") rfl)
  have g__law_joined := He.glo_ok X G (d.fact 15 (f := .glo "_law_joined") rfl)
  have g__law_step := He.glo_ok X G (d.fact 16 (f := .glo "_law_step") rfl)
  have g__law_statement_by := He.glo_ok X G (d.fact 17 (f := .glo "_law_statement_by") rfl)
  have g__law_tree_by := He.glo_ok X G (d.fact 18 (f := .glo "_law_tree_by") rfl)
  have g__law_table := He.glo_ok X G (d.fact 19 (f := .glo "_law_table") rfl)
  have g__law_long := He.glo_ok X G (d.fact 20 (f := .glo "_law_long") rfl)
  have g__law_chain := He.glo_ok X G (d.fact 21 (f := .glo "_law_chain") rfl)
  have i_LONGEST_NAME := He.int_ok X G (d.fact 23 (f := .int "LONGEST_NAME" 8) rfl)
  have m_len := He.free_ok X G (d.fact 24 (f := .free "len") rfl)
  have m_isinstance := He.free_ok X G (d.fact 25 (f := .free "isinstance") rfl)
  have m_str := He.free_ok X G (d.fact 26 (f := .free "str") rfl)
  have m_tuple := He.free_ok X G (d.fact 27 (f := .free "tuple") rfl)
  have m_all := He.free_ok X G (d.fact 28 (f := .free "all") rfl)
  have m_range := He.free_ok X G (d.fact 29 (f := .free "range") rfl)
  have m_list := He.free_ok X G (d.fact 30 (f := .free "list") rfl)
  have m_int := He.free_ok X G (d.fact 31 (f := .free "int") rfl)
  have m_bool := He.free_ok X G (d.fact 32 (f := .free "bool") rfl)
  have m_zip := He.free_ok X G (d.fact 33 (f := .free "zip") rfl)
  have m_min := He.free_ok X G (d.fact 34 (f := .free "min") rfl)
  have m_sorted := He.free_ok X G (d.fact 35 (f := .free "sorted") rfl)
  have gShf := He.glo_ok X G (d.fact 36 (f := .glo "Shelf") rfl)
  have gJ := He.glo_ok X G (d.fact 37 (f := .glo "JOINING") rfl)
  have cShf := He.cls_ok (d.fact 38 (f := .cls "Shelf") rfl)
  have nRow := He.noat_ok (d.fact 39 (f := .noat "Shelf" "rows") rfl)
  have nThi := He.noat_ok (d.fact 40 (f := .noat "Shelf" "things") rfl)
  have mTak := He.meth_ok (d.fact 41 (f := .meth "Shelf" "takes") rfl)
  have mNum := He.meth_ok (d.fact 42 (f := .meth "Shelf" "number") rfl)
  have mMk := He.mkr_ok (d.fact 43 (f := .mkr "Shelf") rfl)
  have P_is_name : FnP K "is_name" (topS 6) _ d_is_name := F_is_name
  have P_numbered : FnP K "numbered" (topS 7) _ d_numbered := F_numbered
  have P_beginning : FnP K "beginning" (topS 9) _ d_beginning := F_beginning
  have P_is_formed : FnP K "is_formed" (topS 10) _ d_is_formed := F_is_formed
  have P_halves : FnP K "halves" (topS 11) _ d_halves := F_halves
  have P_shelved : FnP K "shelved" (topS 12) _ d_shelved := F_shelved
  have P_shelve : FnP K "shelve" (topS 13) _ d_shelve := F_shelve
  have P_with_numbers : FnP K "with_numbers" (topS 14) _ d_with_numbers := F_with_numbers
  have P_is_number_below : FnP K "is_number_below" (topS 16) _ d_is_number_below := F_is_number_below
  have P_holds : FnP K "holds" (topS 17) _ d_holds := F_holds
  have P_refuse_missing : FnP K "refuse_missing" (topS 18) _ d_refuse_missing := F_refuse_missing
  have P_truths_of : FnP K "truths_of" (topS 19) _ d_truths_of := F_truths_of
  have P_truths_of_then : FnP K "truths_of_then" (topS 20) _ d_truths_of_then := F_truths_of_then
  have P__law_cell_at : FnP K "_law_cell_at" (topS 22) _ d__law_cell_at := F__law_cell_at
  have P__law_name_by : FnP K "_law_name_by" (topS 23) _ d__law_name_by := F__law_name_by
  have P__law_joined : FnP K "_law_joined" (topS 24) _ d__law_joined := F__law_joined
  have P__law_step : FnP K "_law_step" (topS 25) _ d__law_step := F__law_step
  have P__law_statement_by : FnP K "_law_statement_by" (topS 26) _ d__law_statement_by := F__law_statement_by
  have P__law_tree_by : FnP K "_law_tree_by" (topS 27) _ d__law_tree_by := F__law_tree_by
  have P__law_table : FnP K "_law_table" (topS 28) _ d__law_table := F__law_table
  have P__law_long : FnP K "_law_long" (topS 29) _ d__law_long := F__law_long
  have P__law_chain : FnP K "_law_chain" (topS 30) _ d__law_chain := F__law_chain
  have P_law : FnP K "law" (topS 31) _ d_law := F_law
  have P_Shelf___init__ : FnM K "__init__" "Shelf.__init__" (inClass (topS 8) 0) _ d_Shelf___init__ := F_Shelf___init__
  have P_Shelf_number : FnM K "number" "Shelf.number" (inClass (topS 8) 1) _ d_Shelf_number := F_Shelf_number
  have P_Shelf_takes : FnM K "takes" "Shelf.takes" (inClass (topS 8) 2) _ d_Shelf_takes := F_Shelf_takes
  have b := FunD.bindsA (ps := ["_law_script"]) P_law fun _ _ _ _ _ _ us hl => match us, hl with | [_], _ => rfl
  refine ⟨d_law, fun s v => b s [v] rfl, fun base _ _ TB => ?_⟩
  have TB2 : ∀ p ∈ tf, GxR.TabB base mg (He.cT K p).1 (He.cT K p).2 := fun p hp => ⟨(TB p hp).1, (TB p hp).2, (TB p hp).3⟩
  have t_is_name : (He.cT K (("is_name", none) : He.Defn)).2 ∈ tbs K := tb_in (by simp [tf])
  have T_is_name := TB2 ("is_name", none) (by simp [tf])
  have c_is_name := code_at (p := ("is_name", none)) F_is_name
  have TS : ShC K mg (He.ga K "Shelf") := ⟨cShf, nRow, nThi, gShf⟩
  have x1 : He.tupB K "JOINING" [.str "and", .str "or", .str "then"] = true := c.more
  have TJ : Joins K mg := ⟨He.ga K "JOINING", gJ, fun Hd => .tup (He.tupB_ok x1 Hd) (.cons (.str _) (.cons (.str _) (.cons (.str _) .nil)))⟩
  have G_is_name : FnG P w K mg base (tbs K) "is_name" ["thing"] 1 rIsNm := ⟨_, _, ok_isNm P_is_name t_is_name T_is_name c_is_name m_len m_isinstance m_str m_all i_LONGEST_NAME, g_is_name, P_is_name.kp, b1 P_is_name fun _ _ _ _ _ _ _ => rfl⟩
  have G_is_formed : FnG P w K mg base (tbs K) "is_formed" ["thing"] 2 rFormed := ⟨_, _, ok_formed P_is_formed G_is_name TJ m_len m_isinstance m_tuple (by decide), g_is_formed, P_is_formed.kp, b1 P_is_formed fun _ _ _ _ _ _ _ => rfl⟩
  have G_beginning : FnG P w K mg base (tbs K) "beginning" ["thing"] 3 rBeg := ⟨_, _, ok_beg P_beginning G_is_formed TJ (by decide), g_beginning, P_beginning.kp, b1 P_beginning fun _ _ _ _ _ _ _ => rfl⟩
  have G_halves : FnG P w K mg base (tbs K) "halves" ["formed"] 1 rHalves := ⟨_, _, ok_halves P_halves TJ, g_halves, P_halves.kp, b1 P_halves fun _ _ _ _ _ _ _ => rfl⟩
  have G_num : MtR2 P w K mg base (He.ga K "Shelf") "number" ["self", "thing"] 4 (spNum K (tbs K) (He.ga K "Shelf")) := ⟨_, _, ok_number P_Shelf_number TS G_beginning (by decide), mNum, P_Shelf_number.bindsN fun _ _ _ _ _ _ us hl => match us, hl with | [_, _], _ => rfl⟩
  have G_tak : MtR2 P w K mg base (He.ga K "Shelf") "takes" ["self", "thing"] 5 (spTakes K (tbs K) (He.ga K "Shelf")) := ⟨_, _, ok_takes P_Shelf_takes TS G_beginning G_num m_len (by decide) (by decide), mTak, P_Shelf_takes.bindsN fun _ _ _ _ _ _ us hl => match us, hl with | [_, _], _ => rfl⟩
  have G_shelve := shelve_all (k0 := 5) P_shelve g_shelve (b2 P_shelve fun _ _ _ _ _ _ _ _ => rfl) TS G_num G_tak G_halves (by decide) (by decide) (by decide) 30
  have G_shelved : FnR P w K mg base "shelved" ["statement"] 37 (spShelved K (tbs K) (He.ga K "Shelf")) := ⟨_, _, ok_shelved (k := 36) P_shelved TS ⟨_, _, mMk, ok_init (k := 0) P_Shelf___init__ TS, P_Shelf___init__.bindsN fun _ _ _ _ _ _ us hl => match us, hl with | [_], _ => rfl⟩ G_shelve (by decide) (by decide), g_shelved, P_shelved.kp, b1 P_shelved fun _ _ _ _ _ _ _ => rfl⟩
  have G_with : FnR P w K mg base "with_numbers" ["part", "shelf"] 5 (spWn K (tbs K) (He.ga K "Shelf")) := ⟨_, _, ok_withN P_with_numbers TS TJ G_num (by decide), g_with_numbers, P_with_numbers.kp, b2 P_with_numbers fun _ _ _ _ _ _ _ _ => rfl⟩
  have G_numberedO : FnO P w K mg base (tbs K) "numbered" ["statement"] 38 rNumbered := ⟨_, _, ok_numbered (k := 37) P_numbered TS G_shelved G_with (by decide) (by decide), g_numbered, P_numbered.kp, b1 P_numbered fun _ _ _ _ _ _ _ => rfl⟩
  have G_numbered := G_numberedO.dat
  have G__law_name_by : FnG P w K mg base (tbs K) "_law_name_by" ["_law_seed", "_law_k"] 1 rName := ⟨_, _, ok_name P__law_name_by m_range, g__law_name_by, P__law_name_by.kp, b2 P__law_name_by fun _ _ _ _ _ _ _ _ => rfl⟩
  have G__law_joined : FnG P w K mg base (tbs K) "_law_joined" ["_law_way", "_law_one", "_law_other"] 1 rJoined := ⟨_, _, ok_joined P__law_joined, g__law_joined, P__law_joined.kp, b3 P__law_joined fun _ _ _ _ _ _ _ _ _ => rfl⟩
  have G__law_step : FnG P w K mg base (tbs K) "_law_step" ["_law_pile", "_law_cell", "_law_seed"] 2 rStep := ⟨_, _, ok_step P__law_step G__law_name_by G__law_joined m_len (by decide) (by decide), g__law_step, P__law_step.kp, b3 P__law_step fun _ _ _ _ _ _ _ _ _ => rfl⟩
  have G__law_statement_by : FnG P w K mg base (tbs K) "_law_statement_by" ["_law_cells", "_law_seed"] 3 rStBy := ⟨_, _, ok_stBy P__law_statement_by G__law_name_by G__law_step m_len (by decide) (by decide), g__law_statement_by, P__law_statement_by.kp, b2 P__law_statement_by fun _ _ _ _ _ _ _ _ => rfl⟩
  have G__law_cell_at : FnG P w K mg base (tbs K) "_law_cell_at" ["_law_script", "_law_k"] 1 rCell := ⟨_, _, ok_cell P__law_cell_at m_len, g__law_cell_at, P__law_cell_at.kp, b2 P__law_cell_at fun _ _ _ _ _ _ _ _ => rfl⟩
  have G_is_number_below : FnG P w K mg base (tbs K) "is_number_below" ["thing", "limit"] 1 rBelow := ⟨_, _, ok_below P_is_number_below m_isinstance m_int m_bool, g_is_number_below, P_is_number_below.kp, b2 P_is_number_below fun _ _ _ _ _ _ _ _ => rfl⟩
  have G_refuse_missing : FnG P w K mg base (tbs K) "refuse_missing" ["tree", "number"] 2 rRefuse := ⟨_, _, ok_refuse P_refuse_missing G_is_number_below m_len (by decide), g_refuse_missing, P_refuse_missing.kp, b2 P_refuse_missing fun _ _ _ _ _ _ _ _ => rfl⟩
  have G_then : FnO P w K mg base (tbs K) "truths_of_then" ["tree", "pairs"] 1 rThen := ⟨_, _, ok_then (k := 0) P_truths_of_then m_len m_range, g_truths_of_then, P_truths_of_then.kp, b2 P_truths_of_then fun _ _ _ _ _ _ _ _ => rfl⟩
  have G_truths : FnO P w K mg base (tbs K) "truths_of" ["tree", "form", "truths"] 2 rTruths := ⟨_, _, ok_truths (k := 1) P_truths_of G_then m_list m_zip (by decide), g_truths_of, P_truths_of.kp, b3 P_truths_of fun _ _ _ _ _ _ _ _ _ => rfl⟩
  have G_holds : FnG P w K mg base (tbs K) "holds" ["tree", "number", "statement"] 39 rHolds := ⟨_, _, ok_holds (k := 38) P_holds G_refuse_missing G_numbered G_truths (by decide) (by decide) (by decide), g_holds, P_holds.kp, b3 P_holds fun _ _ _ _ _ _ _ _ _ => rfl⟩
  have G__law_tree_by : FnG P w K mg base (tbs K) "_law_tree_by" ["_law_cells", "_law_seed", "_law_many"] 2 rTreeBy := ⟨_, _, ok_treeBy P__law_tree_by G__law_name_by m_len m_range m_min m_sorted m_list m_tuple (by decide), g__law_tree_by, P__law_tree_by.kp, b3 P__law_tree_by fun _ _ _ _ _ _ _ _ _ => rfl⟩
  have G__law_long : FnG P w K mg base (tbs K) "_law_long" ["_law_cell", "_law_seed"] 2 rLong := ⟨_, _, ok_long P__law_long G__law_name_by m_range m_sorted m_tuple (by decide), g__law_long, P__law_long.kp, b2 P__law_long fun _ _ _ _ _ _ _ _ => rfl⟩
  have G__law_chain : FnG P w K mg base (tbs K) "_law_chain" ["_law_statement", "_law_many", "_law_cell", "_law_seed"] 2 rChain := ⟨_, _, ok_chain P__law_chain G__law_name_by m_range (by decide), g__law_chain, P__law_chain.kp, b4 P__law_chain fun _ _ _ _ _ _ _ _ _ _ => rfl⟩
  have G_tab := table_all (P := P) (w := w) (base := base) (tb := tbs K) P__law_table g__law_table (b2 P__law_table fun _ _ _ _ _ _ _ _ => rfl) m_len m_range 30
  exact ok_law (k := 41) P_law G__law_cell_at G__law_tree_by G__law_long G__law_statement_by G__law_chain G_tab G_holds m_len m_range m_isinstance m_bool (by decide) (by decide) (by decide) (by decide) (by decide) (by decide) (by decide)
end
end K7
open PySem PySem.W PySem.Calls PyProof.Rows
theorem PySem.Challenge.cw_showtree_k07_what_holds_holds : PySem.Challenge.rw_showtree_k07_what_holds.Holds := by
  w_on; o_law
  refine HandSHeadRun.head_any (r := OpenLaw.row PySem.Challenge.rw_showtree_k07_what_holds) (q := view (OpenLaw.row PySem.Challenge.rw_showtree_k07_what_holds).prog [31]) (H := K7.hk) (ob := K7.ob) (M := 2000) (loose := K7.names) (d := HandSHeadRun.topDef (OpenLaw.row PySem.Challenge.rw_showtree_k07_what_holds).prog 31) (kwd := []) K7.ob_eq
    (by kernel_rfl) (fun s => by kernel_rfl) K7.run (by kernel_rfl) (by kernel_rfl) (by kernel_rfl) (by rfl) (by first | assumption | decide +kernel) (by decide +kernel) ⟨rfl, rfl, rfl, rfl, rfl, by decide +kernel⟩ ?hw ?hc
  case hw => w_witness2
  case hc =>
    refine LamX.walk_ofTsE (l := PySem.Challenge.rw_showtree_k07_what_holds) (n := 63) (k := 42) (x := "_law_script") (CX := fun _ => L2.CX0) rfl (by decide) (by kernel_rfl) ⟨rfl, by decide, by decide⟩ ?F (fun _ _ _ _ _ z => z)
    intro w mg fa h Y G hmg0
    obtain ⟨K, KX, c⟩ := Y
    have hmg : mg ("law" : PySem.Str) = some (.ref fa) := by
      have e : (HandSHeadRun.topDef (OpenLaw.row PySem.Challenge.rw_showtree_k07_what_holds).prog 31).name = ("law" : PySem.Str) := by kernel_rfl
      rw [← e]
      exact hmg0
    obtain ⟨fd, hb, hF⟩ := K7.facts (P := (PySem.Challenge.rw_showtree_k07_what_holds).prog) (w := w) KX G hmg c
    refine ⟨K, KX, fd, K7.tf.map (He.cT K), DL.spD K (K7.tbs K) 1 K7.rLaw, fun p hp => ?_, fun p hp => ?_, fun p hp => ?_, hb, fun H a ns _ _ hH hS => ?_, fun base X2 G2 TB => hF base X2 G2 fun p hp => TB _ (List.mem_map.mpr ⟨p, hp, rfl⟩)⟩
    · obtain ⟨q, hq, rfl⟩ := List.mem_map.mp hp
      exact c.empty q hq
    · obtain ⟨q, hq, rfl⟩ := List.mem_map.mp hp
      exact c.out q hq
    · obtain ⟨q, hq, rfl⟩ := List.mem_map.mp hp
      exact PySem.W.codeHd_of_K KX (c.hd q hq)
    · exact DL.sp_entry (fun p hp => by
        obtain ⟨q, hq, rfl⟩ := List.mem_map.mp hp
        exact hH _ (List.mem_map.mpr ⟨q, hq, rfl⟩)) hS ⟨ns, rfl, rfl⟩
